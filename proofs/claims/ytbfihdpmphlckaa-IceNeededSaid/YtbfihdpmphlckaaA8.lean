/- All abstract operations together; calls; regions; code. -/
import Derived.Test.YtbfihdpmphlckaaA7c
set_option linter.unusedSimpArgs false
set_option linter.unusedVariables false
namespace Go.Abs
open Go.RowKit
variable {P : Program}

section
variable {P : Program} {B : Nat} {σ : Sg} {h : Heap} {w : World} {a : Act} {t : List (Nat × AV)} {K : AV → Heap → Prop}

theorem map_some {α β : Type} {f : α → β} {o : Option α} {b : β} (h : o.map f = some b) : ∃ x, o = some x ∧ f x = b := by
  cases o with
  | none => cases h
  | some x => exact ⟨x, rfl, Option.some.inj h⟩

theorem opt_copd (lo : Option Operand) : (lo.map copd = none ∧ lo = none) ∨ (lo.map copd = some none) ∨ ∃ y ay, lo = some y ∧ lo.map copd = some (some ay) ∧ copd y = some ay := by
  cases lo with
  | none => exact .inl ⟨rfl, rfl⟩
  | some y =>
    cases hc : copd y with
    | none => exact .inr (.inl (by simp [hc]))
    | some ay => exact .inr (.inr ⟨y, ay, rfl, by simp [hc], hc⟩)

set_option maxHeartbeats 1000000 in
theorem snd_eqs (hk : HeapOK P B σ h w) (ht : TOK σ t a) {dst : Option Tmp} {ty : TypeId} {pos : String} {after : Array Edge} {guard : Option (Nat × Bool)} {op : BinOp} {e yt : TypeId} {x y : Operand} {ax ay : AOpd} {ao : AOp}
    (h1 : copd x = some ax) (h2 : copd y = some ay) (hop : op = .eql ∨ op = .neq) (hc : (match P.underlying e with
        | some (.int _) | some .string => some (.bin op ax ay)
        | some .bool => some (.eqv .bool (op matches .neq) ax ay)
        | some (.slice _) => some (.eqv .slice (op matches .neq) ax ay)
        | some (.pointer _) => some (.eqv .ptr (op matches .neq) ax ay)
        | some (.func _ _ _) => some (.eqv .func (op matches .neq) ax ay)
        | some (.map _ _) => some (.eqv .map (op matches .neq) ax ay)
        | some (.struct _) | some (.array _ _) => match eqOffs P 20 e with
          | some offs => if P.eqGuardType P.depth e = true ∨ tyAgg P e ≠ some true then none else some (.eqCells (op matches .neq) offs ax ay)
          | none => none
        | _ => none) = some ao) (hs : ao.semN (AOpd.ev t) h K) : Res P B σ h w ⟨dst, .binOp op e x y yt, ty, pos, after, guard⟩ a K := by
  split at hc
  · simp only [Option.some.injEq] at hc; subst hc; exact snd_bin hk ht h1 h2 hs
  · simp only [Option.some.injEq] at hc; subst hc; exact snd_bin hk ht h1 h2 hs
  · rename_i hu; simp only [Option.some.injEq] at hc; subst hc; exact snd_eqv (k := .bool) hk ht hop hu h1 h2 hs
  · rename_i hu; simp only [Option.some.injEq] at hc; subst hc; exact snd_eqv (k := .slice) hk ht hop ⟨_, hu⟩ h1 h2 hs
  · rename_i hu; simp only [Option.some.injEq] at hc; subst hc; exact snd_eqv (k := .ptr) hk ht hop ⟨_, hu⟩ h1 h2 hs
  · rename_i hu; simp only [Option.some.injEq] at hc; subst hc; exact snd_eqv (k := .func) hk ht hop ⟨_, _, _, hu⟩ h1 h2 hs
  · rename_i hu; simp only [Option.some.injEq] at hc; subst hc; exact snd_eqv (k := .map) hk ht hop ⟨_, _, hu⟩ h1 h2 hs
  · split at hc
    · rename_i ho
      split at hc
      · cases hc
      · rename_i hg
        simp only [Option.some.injEq] at hc; subst hc
        rw [not_or, Decidable.not_not] at hg
        exact snd_eqCells hk ht h1 h2 hop hg.2 ho (by simpa using hg.1) hs
    · cases hc
  · split at hc
    · rename_i ho
      split at hc
      · cases hc
      · rename_i hg
        simp only [Option.some.injEq] at hc; subst hc
        rw [not_or, Decidable.not_not] at hg
        exact snd_eqCells hk ht h1 h2 hop hg.2 ho (by simpa using hg.1) hs
    · cases hc
  · cases hc

theorem AOp.soundN {o : Oper} {ao : AOp} (hc : cop P o = some ao) (hk : HeapOK P B σ h w) (ht : TOK σ t a) (hs : ao.semN (AOpd.ev t) h K) : Res P B σ h w o a K := by
  obtain ⟨dst, op, ty, pos, after, guard⟩ := o
  cases op <;> simp only [cop] at hc
  case move x => obtain ⟨ax, hx, rfl⟩ := map_some hc; exact snd_move hk ht hx hs
  case assign x => obtain ⟨ax, hx, rfl⟩ := map_some hc; exact snd_assign hk ht hx hs
  case pick c x y =>
    split at hc
    · rename_i h1 h2 h3; simp only [Option.some.injEq] at hc; subst hc; exact snd_pick hk ht h1 h2 h3 hs
    · cases hc
  case alloc e => obtain ⟨zs, hz, rfl⟩ := map_some hc; exact snd_alloc hk hz hs
  case box e x => obtain ⟨ax, hx, rfl⟩ := map_some hc; exact snd_box hk ht hx hs
  case build e parts =>
    split at hc
    · rename_i h1 h2 h3
      obtain ⟨aps, hp, rfl⟩ := map_some hc
      exact snd_build hk ht h2 h3 hp hs
    · cases hc
  case buildSlice s len parts =>
    split at hc
    · rename_i e hu
      split at hc
      · rename_i sz zs h1 h2
        split at hc
        · rename_i hcond
          obtain ⟨aps, hp, rfl⟩ := map_some hc
          exact snd_buildSlice hk ht hu h1 h2 hcond.1 hcond.2.1 hcond.2.2 hp hs
        · cases hc
      · cases hc
    · cases hc
  case load e x =>
    split at hc
    · rename_i h1 h2 h3; simp only [Option.some.injEq] at hc; subst hc; exact snd_loadN hk ht h3 h1 h2 hs
    · rename_i h1 h2 h3; simp only [Option.some.injEq] at hc; subst hc; exact snd_load1 hk ht h3 h1 hs
    · cases hc
  case store e x y =>
    split at hc
    · rename_i h1 h2 h3
      split at hc
      · rename_i h4; simp only [Option.some.injEq] at hc; subst hc; exact snd_store hk ht h2 h3 h1 h4 hs
      · cases hc
    · cases hc
  case nilCheck x => obtain ⟨ax, hx, rfl⟩ := map_some hc; exact snd_nilCheck hk ht hx hs
  case binOp op e x y yt =>
    split at hc
    · rename_i ax ay h1 h2
      split at hc
      · exact snd_eqs hk ht h1 h2 (.inl rfl) hc hs
      · exact snd_eqs hk ht h1 h2 (.inr rfl) hc hs
      · simp only [Option.some.injEq] at hc; subst hc; exact snd_shift hk ht (.inl rfl) h1 h2 hs
      · simp only [Option.some.injEq] at hc; subst hc; exact snd_shift hk ht (.inr rfl) h1 h2 hs
      · simp only [Option.some.injEq] at hc; subst hc; exact snd_bin hk ht h1 h2 hs
    · cases hc
  case unOp op e x =>
    split at hc
    · rename_i h1; simp only [Option.some.injEq] at hc; subst hc; exact snd_neg hk ht h1 hs
    · rename_i h1; simp only [Option.some.injEq] at hc; subst hc; exact snd_not hk ht h1 hs
    · cases hc
  case convert s d x =>
    split at hc
    · rename_i h1 h2 h3; simp only [Option.some.injEq] at hc; subst hc; exact snd_conv hk ht h3 h1 h2 hs
    · cases hc
  case makeFunc f xs ys =>
    split at hc
    · rename_i h1 h2; simp only [Option.some.injEq] at hc; subst hc; exact snd_mkfn hk ht h1 h2 hs
    · cases hc
  case fieldAddr s x f =>
    split at hc
    · rename_i h1 h2
      split at hc
      · rename_i h3
        split at hc
        · rename_i h4
          split at hc
          · rename_i h5; simp only [Option.some.injEq] at hc; subst hc; exact snd_fieldAddr hk ht h2 h1 h3 h4 h5 hs
          · cases hc
        · cases hc
      · cases hc
    · cases hc
  case field s x f =>
    split at hc
    · rename_i h1 h2
      split at hc
      · rename_i h3
        split at hc
        · rename_i h4 h5; simp only [Option.some.injEq] at hc; subst hc; exact snd_fieldN hk ht h2 h1 h3 h4 h5 hs
        · rename_i h4 h5; simp only [Option.some.injEq] at hc; subst hc; exact snd_field1 hk ht h2 h1 h3 h4 hs
        · cases hc
      · cases hc
    · cases hc
  case indexAddr s x i =>
    split at hc
    · rename_i h1 h2 h3; obtain ⟨sz, hz, rfl⟩ := map_some hc; exact snd_idxSl hk ht h2 h3 h1 hz hs
    · rename_i h1 h2 h3; obtain ⟨sz, hz, rfl⟩ := map_some hc; exact snd_idxArr hk ht h2 h3 h1 hz hs
    · cases hc
  case index s x i =>
    split at hc
    · rename_i h1 h2 h3
      split at hc
      · rename_i h4 h5; simp only [Option.some.injEq] at hc; subst hc; exact snd_indexN hk ht h2 h3 h1 h4 h5 hs
      · rename_i h4 h5; simp only [Option.some.injEq] at hc; subst hc; exact snd_index1 hk ht h2 h3 h1 h4 h5 hs
      · cases hc
    · rename_i h1 h2 h3; simp only [Option.some.injEq] at hc; subst hc; exact snd_sIdx hk ht h2 h3 h1 hs
    · cases hc
  case makeSlice s x y =>
    split at hc
    · rename_i h1 h2 h3
      split at hc
      · rename_i h4 h5
        split at hc
        · rename_i hcond; simp only [Option.some.injEq] at hc; subst hc; exact snd_makeSl hk ht h2 h3 h1 h4 h5 hcond.1 hcond.2 hs
        · cases hc
      · cases hc
    · cases hc
  case makeMap s r =>
    cases r with
    | none => simp only [Option.some.injEq] at hc; subst hc; exact snd_makeMap (t := t) hk hs
    | some r => cases hc
  case lookup s m i ok =>
    split at hc
    · rename_i h1 h2 h3; simp only [Option.some.injEq] at hc; subst hc; exact snd_mapGet hk ht h2 h3 h1 hs
    · cases hc
  case mapUpdate s m i x =>
    split at hc
    · rename_i h1 h2 h3 h4; simp only [Option.some.injEq] at hc; subst hc; exact snd_mapPut hk ht h2 h3 h4 h1 hs
    · cases hc
  case range s x =>
    split at hc
    · rename_i hu hx; simp only [Option.some.injEq] at hc; subst hc; exact snd_rangeM hk ht hx hu hs
    · cases hc
  case next it b =>
    cases b with
    | false => obtain ⟨ax, hx, rfl⟩ := map_some hc; exact snd_nextM hk ht hx hs
    | true => cases hc
  case entry it => obtain ⟨ax, hx, rfl⟩ := map_some hc; exact snd_entryM hk ht hx hs
  case slice s x lo hi mx =>
    split at hc
    · rename_i ax hu hx
      cases mx with
      | some _ =>
        rcases opt_copd lo with ⟨l1, l2⟩ | l1 | ⟨yl, al, l2, l1, l3⟩ <;> rcases opt_copd hi with ⟨i1, i2⟩ | i1 | ⟨yi, ai, i2, i1, i3⟩ <;> simp [l1, i1] at hc
      | none =>
        rcases opt_copd lo with ⟨l1, l2⟩ | l1 | ⟨yl, al, l2, l1, l3⟩
        · rcases opt_copd hi with ⟨i1, i2⟩ | i1 | ⟨yi, ai, i2, i1, i3⟩
          · simp only [l1, i1, Option.some.injEq] at hc; subst hc
            exact snd_sSlice hk ht hx (.inl ⟨l2, rfl⟩) (.inl ⟨i2, rfl⟩) hu hs
          · simp [l1, i1] at hc
          · simp only [l1, i1, Option.some.injEq] at hc; subst hc
            exact snd_sSlice hk ht hx (.inl ⟨l2, rfl⟩) (.inr ⟨yi, ai, i2, rfl, i3⟩) hu hs
        · simp [l1] at hc
        · rcases opt_copd hi with ⟨i1, i2⟩ | i1 | ⟨yi, ai, i2, i1, i3⟩
          · simp only [l1, i1, Option.some.injEq] at hc; subst hc
            exact snd_sSlice hk ht hx (.inr ⟨yl, al, l2, rfl, l3⟩) (.inl ⟨i2, rfl⟩) hu hs
          · simp [l1, i1] at hc
          · simp only [l1, i1, Option.some.injEq] at hc; subst hc
            exact snd_sSlice hk ht hx (.inr ⟨yl, al, l2, rfl, l3⟩) (.inr ⟨yi, ai, i2, rfl, i3⟩) hu hs
    · rename_i e ax hu hx
      split at hc
      · rename_i sz hz
        rcases opt_copd lo with ⟨l1, l2⟩ | l1 | ⟨yl, al, l2, l1, l3⟩
        · rcases opt_copd hi with ⟨i1, i2⟩ | i1 | ⟨yi, ai, i2, i1, i3⟩
          · rcases opt_copd mx with ⟨m1, m2⟩ | m1 | ⟨ym, am, m2, m1, m3⟩
            · simp only [l1, i1, m1, Option.some.injEq] at hc; subst hc; subst m2
              exact snd_slice hk ht hx (.inl ⟨l2, rfl⟩) (.inl ⟨i2, rfl⟩) hu hz hs
            · simp [l1, i1, m1] at hc
            · simp [l1, i1, m1] at hc
          · simp [l1, i1] at hc
          · rcases opt_copd mx with ⟨m1, m2⟩ | m1 | ⟨ym, am, m2, m1, m3⟩
            · simp only [l1, i1, m1, Option.some.injEq] at hc; subst hc; subst m2
              exact snd_slice hk ht hx (.inl ⟨l2, rfl⟩) (.inr ⟨yi, ai, i2, rfl, i3⟩) hu hz hs
            · simp [l1, i1, m1] at hc
            · simp only [l1, i1, m1, Option.some.injEq] at hc; subst hc; subst m2; subst i2
              exact snd_slice3 hk ht hx (.inl ⟨l2, rfl⟩) i3 m3 hu hz hs
        · simp [l1] at hc
        · rcases opt_copd hi with ⟨i1, i2⟩ | i1 | ⟨yi, ai, i2, i1, i3⟩
          · rcases opt_copd mx with ⟨m1, m2⟩ | m1 | ⟨ym, am, m2, m1, m3⟩
            · simp only [l1, i1, m1, Option.some.injEq] at hc; subst hc; subst m2
              exact snd_slice hk ht hx (.inr ⟨yl, al, l2, rfl, l3⟩) (.inl ⟨i2, rfl⟩) hu hz hs
            · simp [l1, i1, m1] at hc
            · simp [l1, i1, m1] at hc
          · simp [l1, i1] at hc
          · rcases opt_copd mx with ⟨m1, m2⟩ | m1 | ⟨ym, am, m2, m1, m3⟩
            · simp only [l1, i1, m1, Option.some.injEq] at hc; subst hc; subst m2
              exact snd_slice hk ht hx (.inr ⟨yl, al, l2, rfl, l3⟩) (.inr ⟨yi, ai, i2, rfl, i3⟩) hu hz hs
            · simp [l1, i1, m1] at hc
            · simp only [l1, i1, m1, Option.some.injEq] at hc; subst hc; subst m2; subst i2
              exact snd_slice3 hk ht hx (.inr ⟨yl, al, l2, rfl, l3⟩) i3 m3 hu hz hs
      · cases hc
    · cases hc
  case extract x i => obtain ⟨ax, hx, rfl⟩ := map_some hc; exact snd_extract hk ht hx hs
  case call c =>
    obtain ⟨callee, args, ats⟩ := c
    cases callee with
    | invoke r m => cases hc
    | value f =>
      cases f with
      | func f =>
        simp only at hc
        split at hc
        · obtain ⟨as, _, rfl⟩ := map_some hc; exact hs.elim
        · cases hc
      | tmp i =>
        simp only at hc
        split at hc
        · simp only [Option.some.injEq] at hc; subst hc; exact hs.elim
        · cases hc
      | const v =>
        simp only at hc
        split at hc
        · simp only [Option.some.injEq] at hc; subst hc; exact hs.elim
        · cases hc
      | global g =>
        simp only at hc
        split at hc
        · simp only [Option.some.injEq] at hc; subst hc; exact hs.elim
        · cases hc
    | builtin b =>
      cases b <;> simp only at hc <;> try (cases hc; done)
      case len =>
        split at hc
        · rename_i h1 h2
          split at hc
          · rename_i hu; obtain ⟨ax, hx, rfl⟩ := map_some hc; exact snd_len hk ht hx hu h1 h2 hs
          · rename_i hu; obtain ⟨ax, hx, rfl⟩ := map_some hc; exact snd_lenS hk ht hx hu h1 h2 hs
          · rename_i hu; obtain ⟨ax, hx, rfl⟩ := map_some hc; exact snd_lenM hk ht hx hu h1 h2 hs
          · cases hc
        · cases hc
      case delete =>
        split at hc
        · rename_i h1 h2
          split at hc
          · rename_i g1 g2 g3; simp only [Option.some.injEq] at hc; subst hc; exact snd_mapDel hk ht g2 g3 g1 h1 h2 hs
          · cases hc
        · cases hc
      case clear =>
        split at hc
        · rename_i h1 h2
          split at hc
          · rename_i hu; obtain ⟨ax, hx, rfl⟩ := map_some hc; exact snd_mapClear hk ht hx hu h1 h2 hs
          · cases hc
        · cases hc
      case cap =>
        split at hc
        · rename_i h1 h2
          split at hc
          · rename_i hu; obtain ⟨ax, hx, rfl⟩ := map_some hc; exact snd_capS hk ht hx hu h1 h2 hs
          · cases hc
        · cases hc
      case append =>
        split at hc
        · rename_i h1 h2
          split at hc
          · rename_i htu
            subst htu
            split at hc
            · rename_i hu
              split at hc
              · rename_i g1 g2 g3 g4
                split at hc
                · rename_i hcond
                  simp only [Option.some.injEq] at hc; subst hc
                  exact snd_append hk ht g3 g4 hu g1 g2 hcond.1 hcond.2.1 hcond.2.2 h1 h2 hs
                · cases hc
              · cases hc
            · cases hc
          · split at hc
            · rename_i hu hui
              split at hc
              · rename_i g1 g2 g3 g4
                split at hc
                · rename_i hcond
                  simp only [Option.some.injEq] at hc; subst hc
                  exact snd_appZ hk ht g3 g4 hu hui g1 g2 hcond.1 hcond.2.1 hcond.2.2 h1 h2 hs
                · cases hc
              · cases hc
            · cases hc
        · cases hc
      case min =>
        split at hc
        · rename_i h1; simp only [Option.some.injEq] at hc; subst hc; exact snd_min hk ht h1 hs
        · cases hc
      case max =>
        split at hc
        · rename_i h1; simp only [Option.some.injEq] at hc; subst hc; exact snd_max hk ht h1 hs
        · cases hc
  all_goals cases hc
theorem AOp.sound {o : Oper} {ao : AOp} (hc : cop P o = some ao) (hk : HeapOK P B σ h w) (ht : TOK σ t a) (hs : ao.sem (AOpd.ev t) h K) : Res P B σ h w o a K := AOp.soundN hc hk ht (semN_of hs)
end
end Go.Abs
