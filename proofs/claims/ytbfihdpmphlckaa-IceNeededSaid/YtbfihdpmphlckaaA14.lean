/- What is asked of a region that draws its order, and what it tells of each operation. -/
import Derived.Test.YtbfihdpmphlckaaA13
set_option linter.unusedSimpArgs false
set_option linter.unusedVariables false
namespace Go.Abs

structure Rd where
  at_ : Nat
  op : AOp
  t : List (Nat × AV)
  v : AV

def recheck (ps : List (List Nat)) (i : Nat) (h' : Heap) : List Rd → Prop
  | [] => True
  | r :: rs => (r.at_ ∉ pr ps i → r.op.sem (AOpd.ev r.t) h' (fun v' _ => v' = r.v)) ∧ recheck ps i h' rs

def repast (ps : List (List Nat)) (i : Nat) (op : AOp) (t : List (Nat × AV)) (v : AV) : List (Nat × Heap) → Prop
  | [] => True
  | p :: past => (p.1 ∉ pr ps i → op.sem (AOpd.ev t) p.2 (fun v' _ => v' = v)) ∧ repast ps i op t v past

def AOp.eff (P : Program) (op : AOp) (s : St) (K : AV → Heap → Prop) : Prop :=
  match op with
  | .callF f args => ∃ v h', ACalls P f (args.map (AOpd.ev s.t)) s.h (fun v2 h2 => v2 = v ∧ h2 = h') ∧ K v h'
  | .callV f args => match f.ev s.t with
    | .fn (.func f) first caps => ∃ v h', ACalls P f (first ++ args.map (AOpd.ev s.t) ++ caps) s.h (fun v2 h2 => v2 = v ∧ h2 = h') ∧ K v h'
    | .yield id => ∃ v h', AYields P id (args.map (AOpd.ev s.t)) s.h (fun v2 h2 => v2 = v ∧ h2 = h') ∧ K v h'
    | _ => False
  | op => op.sem (AOpd.ev s.t) s.h K

def DAO.wp (P : Program) (ps : List (List Nat)) : List AO → Nat → List (Nat × Heap) → List Rd → (St → Prop) → St → Prop
  | [], _, _, _, K, s => K s
  | o :: os, i, past, rds, K, s =>
    match o.guard with
    | none => run o os i past rds K s
    | some (g, want) => match lk s.t g with
      | .bool b => if b = want then run o os i past rds K s else DAO.wp P ps os (i + 1) past rds K (s.put o.dst (.tuple []) s.h)
      | .tuple [] => DAO.wp P ps os (i + 1) past rds K (s.put o.dst (.tuple []) s.h)
      | _ => False
where
  run (o : AO) (os : List AO) (i : Nat) (past : List (Nat × Heap)) (rds : List Rd) (K : St → Prop) (s : St) : Prop :=
    match o.op.cls with
    | 0 => o.op.sem (AOpd.ev s.t) s.h (fun v _ => DAO.wp P ps os (i + 1) past rds K (s.put o.dst v s.h))
    | 1 => o.op.sem (AOpd.ev s.t) s.h (fun v _ => repast ps i o.op s.t v past ∧ DAO.wp P ps os (i + 1) past (⟨i, o.op, s.t, v⟩ :: rds) K (s.put o.dst v s.h))
    | 2 => (o.op.slots.all fun k => (lk s.t k).sc s.h.length) = true ∧ o.op.sem (AOpd.ev s.t) s.h (fun v h' => recheck ps i h' rds ∧ DAO.wp P ps os (i + 1) ((i, s.h) :: past) (rds.filter fun r => !(pr ps i).contains r.at_) K (s.put o.dst v h'))
    | _ => (o.op.slots.all fun k => (lk s.t k).sc s.h.length) = true ∧ o.op.eff P s (fun v h' => s.h.length ≤ h'.length ∧ recheck ps i h' rds ∧ DAO.wp P ps os (i + 1) ((i, s.h) :: past) (rds.filter fun r => !(pr ps i).contains r.at_) K (s.put o.dst v h'))

structure Cert where
  v : Nat → AV
  hp : Nat → Heap
  sk : Nat → Bool
  T : Nat → List (Nat × AV)

def Cert.HR (c : Cert) (op : AOp) (k : Nat) : Prop := 2 ≤ op.cls ∧ c.sk k = false

def Cert.Runs (P : Program) (c : Cert) (o : AO) (j : Nat) : Prop :=
  c.T (j + 1) = (match o.dst with | some d => (d, c.v j) :: c.T j | none => c.T j) ∧
  ((c.sk j = true ∧ c.v j = .tuple [] ∧ c.hp (j + 1) = c.hp j ∧ ∃ g want, o.guard = some (g, want) ∧ (lk (c.T j) g = .tuple [] ∨ ∃ b, lk (c.T j) g = .bool b ∧ b ≠ want)) ∨
   (c.sk j = false ∧ (o.guard = none ∨ ∃ g want, o.guard = some (g, want) ∧ lk (c.T j) g = .bool want) ∧
    ((o.op.cls = 0 ∧ c.hp (j + 1) = c.hp j ∧ o.op.sem (AOpd.ev (c.T j)) (c.hp j) (fun v' h' => v' = c.v j ∧ h' = c.hp j)) ∨
     (o.op.cls = 1 ∧ c.hp (j + 1) = c.hp j) ∨
     (o.op.cls = 2 ∧ o.op.sem (AOpd.ev (c.T j)) (c.hp j) (fun v' h' => v' = c.v j ∧ h' = c.hp (j + 1)) ∧ (o.op.slots.all fun k => (lk (c.T j) k).sc (c.hp j).length) = true) ∨
     (o.op.cls = 3 ∧ o.op.eff P ⟨c.T j, c.hp j⟩ (fun v' h' => v' = c.v j ∧ h' = c.hp (j + 1)) ∧ (c.hp j).length ≤ (c.hp (j + 1)).length ∧ (o.op.slots.all fun k => (lk (c.T j) k).sc (c.hp j).length) = true))))

def Cert.Reads (ps : List (List Nat)) (c : Cert) (al : List AO) (i0 n : Nat) (o : AO) (j : Nat) : Prop :=
  o.op.cls = 1 → c.sk j = false → ∀ q, i0 ≤ q → q ≤ n → (q = n ∨ q = j ∨ ((∃ oq, al[q]? = some oq ∧ c.HR oq.op q) ∧ q ∉ pr ps j)) →
    (∀ (k : Nat) (ok : AO), i0 ≤ k → k < q → al[k]? = some ok → c.HR ok.op k → j ∉ pr ps k) → o.op.sem (AOpd.ev (c.T j)) (c.hp q) (fun v' _ => v' = c.v j)

theorem cls_le (op : AOp) : op.cls ≤ 3 := by cases op <;> simp [AOp.cls]

theorem eff_ex {P : Program} {op : AOp} {s : St} {K : AV → Heap → Prop} (hc : op.cls = 3) (h : op.eff P s K) : ∃ v h', K v h' ∧ op.eff P s (fun v' h'' => v' = v ∧ h'' = h') := by
  cases op
  case callF f args =>
    obtain ⟨v, h', h1, h2⟩ := h
    exact ⟨v, h', h2, v, h', h1, rfl, rfl⟩
  case callV f args =>
    simp only [AOp.eff] at h ⊢
    split at h
    · obtain ⟨v, h', h1, h2⟩ := h
      exact ⟨v, h', h2, v, h', h1, rfl, rfl⟩
    · obtain ⟨v, h', h1, h2⟩ := h
      exact ⟨v, h', h2, v, h', h1, rfl, rfl⟩
    · cases h
  all_goals first
    | (simp [AOp.cls] at hc; done)
    | (simp only [AOp.eff] at h ⊢; exact sem_ex h)

theorem recheck_mem {ps : List (List Nat)} {i : Nat} {h' : Heap} : ∀ {rs : List Rd}, recheck ps i h' rs → ∀ r ∈ rs, r.at_ ∉ pr ps i → r.op.sem (AOpd.ev r.t) h' (fun v' _ => v' = r.v)
  | [], _, _, hr => by cases hr
  | r :: rs, h, x, hx => by
    simp only [recheck] at h
    rcases List.mem_cons.1 hx with rfl | hx
    · exact h.1
    · exact recheck_mem h.2 x hx

theorem repast_mem {ps : List (List Nat)} {i : Nat} {op : AOp} {t : List (Nat × AV)} {v : AV} : ∀ {past : List (Nat × Heap)}, repast ps i op t v past → ∀ p ∈ past, p.1 ∉ pr ps i → op.sem (AOpd.ev t) p.2 (fun v' _ => v' = v)
  | [], _, _, hr => by cases hr
  | r :: rs, h, x, hx => by
    simp only [repast] at h
    rcases List.mem_cons.1 hx with rfl | hx
    · exact h.1
    · exact repast_mem h.2 x hx

theorem sem_read_heap {op : AOp} {ev : AOpd → AV} {h h' : Heap} {v : AV} (hc : op.cls = 1) (hs : op.sem ev h (fun v' h'' => v' = v ∧ h'' = h')) : h' = h := by
  cases op <;> first
    | (simp [AOp.cls] at hc; done)
    | (simp only [AOp.sem] at hs; (repeat' split at hs) <;> simp_all)

theorem sem_weak {op : AOp} {ev : AOpd → AV} {h : Heap} {K K' : AV → Heap → Prop} (hK : ∀ v h', K v h' → K' v h') (hs : op.sem ev h K) : op.sem ev h K' := by
  obtain ⟨v, h', h1, h2⟩ := sem_ex hs
  have h3 := hK v h' h1
  revert h2
  generalize hA : (fun v' h'' => v' = v ∧ h'' = h' : AV → Heap → Prop) = A
  intro h2
  have hA' : ∀ v' h'', A v' h'' → K' v' h'' := by
    intro v' h'' ha; rw [← hA] at ha; obtain ⟨rfl, rfl⟩ := ha; exact h3
  clear hA h3 h1 hs hK
  cases op
  case min2 x y =>
    simp only [AOp.sem] at h2 ⊢
    split at h2
    · exact hA' _ _ h2
    · cases h2
  case max2 x y =>
    simp only [AOp.sem] at h2 ⊢
    split at h2
    · exact hA' _ _ h2
    · cases h2
  case index1 x i n =>
    simp only [AOp.sem] at h2 ⊢
    split at h2
    · obtain ⟨g0, g1, v, g2, g3⟩ := h2; exact ⟨g0, g1, v, g2, hA' _ _ g3⟩
    · cases h2
  case bin op x y =>
    cases op
    case quo =>
      simp only [AOp.sem, divA] at h2 ⊢
      split at h2
      · obtain ⟨g0, g1, g2⟩ := h2; exact ⟨g0, g1, hA' _ _ g2⟩
      · cases h2
    case rem =>
      simp only [AOp.sem, divA] at h2 ⊢
      split at h2
      · obtain ⟨g0, g1, g2⟩ := h2; exact ⟨g0, g1, hA' _ _ g2⟩
      · cases h2
    all_goals (simp only [AOp.sem] at h2 ⊢; split at h2 <;> first | exact hA' _ _ h2 | cases h2)
  all_goals (simp only [AOp.sem] at h2 ⊢ <;> (repeat' split at h2) <;> first
    | exact hA' _ _ h2
    | (exact h2.elim)
    | (obtain ⟨g1, g2⟩ := h2; first | exact ⟨g1, hA' _ _ g2⟩ | (obtain ⟨g2, g3⟩ := g2; first | exact ⟨g1, g2, hA' _ _ g3⟩ | (obtain ⟨g3, g4⟩ := g3; first | exact ⟨g1, g2, g3, hA' _ _ g4⟩ | (obtain ⟨g4, g5⟩ := g4; first | exact ⟨g1, g2, g3, g4, hA' _ _ g5⟩ | (obtain ⟨g5, g6⟩ := g5; exact ⟨g1, g2, g3, g4, g5, hA' _ _ g6⟩)))))
    | (simp_all))
end Go.Abs
