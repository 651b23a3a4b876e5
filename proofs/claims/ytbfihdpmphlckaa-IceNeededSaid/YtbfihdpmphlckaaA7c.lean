/- Each abstract operation says what the model's operation does. Seventh part: maps. -/
import Derived.Test.YtbfihdpmphlckaaA7b
import Derived.MapKept
set_option linter.unusedSimpArgs false
set_option linter.unusedVariables false
namespace Go.Abs
open Go.RowKit

section
variable {P : Program} {B : Nat} {σ : Sg} {h : Heap} {w : World} {a : Act} {t : List (Nat × AV)} {K : AV → Heap → Prop}
variable {dst : Option Tmp} {ty : TypeId} {pos : String} {after : Array Edge} {guard : Option (Nat × Bool)}

/-! ### Keys -/
theorem eqAt_row {X Y : List AV} : ∀ (os : List (Nat × CK)) (k : Nat) (x y : List AV) (r : Bool), os.map (·.1) = List.range' k os.length → X.drop k = x → Y.drop k = y → eqRow (os.map (·.2)) x y = some r → eqAt X Y os = some r
  | [], k, x, y, r, _, _, _, h => by
    cases x <;> cases y <;> simp [eqRow] at h
    subst h; rfl
  | (o, c) :: os, k, x, y, r, h1, hx, hy, h => by
    simp only [List.map_cons, List.length_cons, List.range'_succ, List.cons.injEq] at h1
    obtain ⟨rfl, h1⟩ := h1
    cases x with
    | nil => simp [eqRow] at h
    | cons x xs =>
      cases y with
      | nil => simp [eqRow] at h
      | cons y ys =>
        simp only [List.map_cons, eqRow] at h
        split at h
        · rename_i r1 t1 e1 e2
          simp only [Option.some.injEq] at h; subst h
          have gx : X[o]? = some x := by have := congrArg (·[0]?) hx; simpa using this
          have gy : Y[o]? = some y := by have := congrArg (·[0]?) hy; simpa using this
          have dx : X.drop (o + 1) = xs := by rw [← List.drop_drop, hx]; rfl
          have dy : Y.drop (o + 1) = ys := by rw [← List.drop_drop, hy]; rfl
          have ih := eqAt_row os (o + 1) xs ys t1 h1 dx dy e2
          simp only [eqAt, gx, gy, ih, e1]
        · cases h

theorem bytes_eq {a b : ByteArray} (h : (a.toList == b.toList) = true) : a = b := by
  have h' : a.toList = b.toList := by simpa using h
  have := (beq_toListBytes a b).trans h
  exact (MapKept.bytes_beq a b).1 this

theorem eqCell_true {c : CK} {x y : AV} (h : eqCell c x y = some true) : x = y ∧ ∀ {u v : Value}, Rel σ x u → Rel σ y v → u = v ∧ ∀ n, Instr.sameBits n v v = true := by
  unfold eqCell at h
  split at h
  · split at h
    · rename_i hk
      subst hk
      simp only [Option.some.injEq, decide_eq_true_eq] at h; subst h
      exact ⟨rfl, fun hu hv => by simp only [Rel] at hu hv; subst hu; subst hv; exact ⟨rfl, fun n => by simp [Instr.sameBits]⟩⟩
    · cases h
  · simp only [Option.some.injEq, beq_iff_eq] at h; subst h
    exact ⟨rfl, fun hu hv => by simp only [Rel] at hu hv; subst hu; subst hv; exact ⟨rfl, fun n => by simp [Instr.sameBits]⟩⟩
  · simp only [Option.some.injEq] at h
    have := bytes_eq h
    subst this
    exact ⟨rfl, fun hu hv => by simp only [Rel] at hu hv; subst hu; subst hv; exact ⟨rfl, fun n => by simp [Instr.sameBits, MapKept.bytes_beq]⟩⟩
  · cases h

theorem eqRow_true : ∀ {cs : List CK} {x y : List AV}, eqRow cs x y = some true → x = y ∧ ∀ {u v : List Value}, RelL σ x u → RelL σ y v → u = v ∧ ∀ n, ∀ p ∈ v.zip v, Instr.sameBits n p.1 p.2 = true
  | [], [], [], _ => ⟨rfl, fun hu hv => by simp only [RelL] at hu hv; subst hu; subst hv; exact ⟨rfl, by simp⟩⟩
  | c :: cs, x :: xs, y :: ys, h => by
    simp only [eqRow] at h
    split at h
    · rename_i r1 t1 e1 e2
      simp only [Option.some.injEq, Bool.and_eq_true] at h
      obtain ⟨rfl, rfl⟩ := h
      obtain ⟨rfl, k1⟩ := eqCell_true (σ := σ) e1
      obtain ⟨rfl, k2⟩ := eqRow_true e2
      refine ⟨rfl, fun hu hv => ?_⟩
      obtain ⟨u, us, rfl, a1, a2⟩ := hu
      obtain ⟨v, vs, rfl, b1, b2⟩ := hv
      obtain ⟨rfl, s1⟩ := k1 a1 b1
      obtain ⟨rfl, s2⟩ := k2 a2 b2
      refine ⟨rfl, fun n p hp => ?_⟩
      simp only [List.zip_cons_cons, List.mem_cons] at hp
      rcases hp with rfl | hp
      · exact s1 n
      · exact s2 n p hp
    · cases h
  | [], [], _ :: _, h | [], _ :: _, _, h | _ :: _, [], _, h | _ :: _, _ :: _, [], h => by simp [eqRow] at h

theorem keyEq_true {k : KK} {x y : AV} (h : keyEq k x y = some true) {u v : Value} (hu : Rel σ x u) (hv : Rel σ y v) : u = v ∧ Instr.sameBits 10000 v v = true := by
  unfold keyEq at h
  split at h
  · obtain ⟨_, k1⟩ := eqCell_true (σ := σ) h
    exact ⟨(k1 hu hv).1, (k1 hu hv).2 _⟩
  · obtain ⟨_, k1⟩ := eqRow_true (σ := σ) h
    obtain ⟨a, rfl, ha⟩ := hu
    obtain ⟨b, rfl, hb⟩ := hv
    obtain ⟨e, s⟩ := k1 ha hb
    have : a = b := Array.ext' e
    subst this
    refine ⟨rfl, ?_⟩
    show Instr.sameBits (9999 + 1) _ _ = true
    simp only [Instr.sameBits, beq_self_eq_true, Bool.true_and, List.all_eq_true]
    exact fun p hp => s 9999 p hp
  · cases h

inductive KeyIs (P : Program) (t : TypeId) : KK → Prop
  | one (c : CK) (h : CKOf P t c) : KeyIs P t (.one c)
  | row (os : List (Nat × CK)) (h1 : eqOffs P 20 t = some os) (h2 : os.map (·.1) = List.range' 0 os.length) (h3 : tyAgg P t = some true) : KeyIs P t (.row (os.map (·.2)))

theorem keyKind_is {t : TypeId} {k : KK} (h : keyKind P t = some k) : KeyIs P t k := by
  have row : ∀ {o : Option (List (Nat × CK))}, eqOffs P 20 t = o → (match o with
    | some os => if os.map (·.1) = List.range os.length ∧ tyAgg P t = some true then some (KK.row (os.map (·.2))) else none
    | none => none) = some k → KeyIs P t k := by
    intro o ho h
    split at h
    · split at h
      · rename_i hc
        simp only [Option.some.injEq] at h; subst h
        exact .row _ ho (by rw [hc.1, List.range_eq_range']) hc.2
      · cases h
    · cases h
  unfold keyKind at h
  split at h
  · rename_i hu; simp only [Option.some.injEq] at h; subst h; exact .one _ ⟨_, hu⟩
  · rename_i hu; simp only [Option.some.injEq] at h; subst h; exact .one _ hu
  · rename_i hu; simp only [Option.some.injEq] at h; subst h; exact .one _ hu
  · exact row rfl h
  · exact row rfl h
  · cases h

theorem check_fields {n d : Nat} {em : Bool} (ih : ∀ (e : TypeId) (offs : List (Nat × CK)), eqOffs P n e = some offs → ∀ (u : Value) (x : List AV) (r : Bool),
    Fit P e u x → RelL σ x u.cells.toList → eqAt x x offs = some r → (Instr.checkKey em d e u).run P w = .ok () w)
    {p : Array Value} {x : List AV} (hx : RelL σ x p.toList) :
    ∀ (fs : List Field) (offs : List (Nat × CK)) (r : Bool), fs.foldr (fun f r => match eqOffs P n f.type, tySize P f.type, r with
        | some os, some sz, some r => if f.name ≠ "_" ∧ os.all (fun o => decide (o.1 < sz)) = true then some (os.map (fun o => (f.offset + o.1, o.2)) ++ r) else none
        | _, _, _ => none) (some []) = some offs → eqAt x x offs = some r →
      ((forIn fs PUnit.unit fun f _ => if f.name ≠ "_" then (do
          let q ← part f.type p f.offset
          Instr.checkKey em d f.type q
          pure (ForInStep.yield PUnit.unit)) else pure (ForInStep.yield PUnit.unit) : Sem PUnit)).run P w = .ok PUnit.unit w
  | [], offs, r, h, hr => by simp
  | f :: fs, offs, r, h, hr => by
    simp only [List.foldr_cons] at h
    split at h
    · rename_i os sz rr h1 h2 h3
      split at h
      · rename_i hc
        simp only [Option.some.injEq] at h; subst h
        obtain ⟨r1, r2, g1, g2, rfl⟩ := eqAt_append hr
        rw [eqAt_shift f.offset sz hc.2] at g1
        have rest := check_fields ih hx fs rr r2 h3 g2
        obtain ⟨u, e1, k1, f1⟩ := part_fit hx h1 h2 (w := w) (.inl g1)
        have e3 := ih _ _ h1 u _ r1 f1 k1 g1
        simp only [List.forIn_cons, Sem.run_bind, ne_eq, hc.1, not_false_eq_true, if_true, e1, e3, Result.andThen_ok, Sem.run_pure]
        simpa using rest
      · cases h
    · cases h

theorem check_items {n d : Nat} {em : Bool} (ih : ∀ (e : TypeId) (offs : List (Nat × CK)), eqOffs P n e = some offs → ∀ (u : Value) (x : List AV) (r : Bool),
    Fit P e u x → RelL σ x u.cells.toList → eqAt x x offs = some r → (Instr.checkKey em d e u).run P w = .ok () w)
    {p : Array Value} {x : List AV} (hx : RelL σ x p.toList) {e : TypeId} {os : List (Nat × CK)} {sz : Nat} (h1 : eqOffs P n e = some os) (h2 : tySize P e = some sz)
    (ha : os.all (fun o => decide (o.1 < sz)) = true) :
    ∀ (is : List Nat) (r : Bool), eqAt x x (is.flatMap fun i => os.map (fun o => (i * sz + o.1, o.2))) = some r →
      ((forIn is PUnit.unit fun i _ => do
        let c ← sizeOf e
        let q ← part e p (i * c)
        Instr.checkKey em d e q
        pure (ForInStep.yield PUnit.unit) : Sem PUnit)).run P w = .ok PUnit.unit w
  | [], r, hr => by simp
  | i :: is, r, hr => by
    simp only [List.flatMap_cons] at hr
    obtain ⟨r1, r2, g1, g2, rfl⟩ := eqAt_append hr
    rw [eqAt_shift (i * sz) sz ha] at g1
    have rest := check_items ih hx h1 h2 ha is r2 g2
    obtain ⟨u, e1, k1, f1⟩ := part_fit hx h1 h2 (w := w) (.inl g1)
    have e3 := ih _ _ h1 u _ r1 f1 k1 g1
    simp only [List.forIn_cons, Sem.run_bind, size_run h2, e1, e3, Result.andThen_ok, Sem.run_pure]
    simpa [size_run h2] using rest

theorem check_int {em : Bool} {t : TypeId} {k : IntKind} (hu : P.underlying t = some (.int k)) {u : Value} (d : Nat) : (Instr.checkKey em (d + 1) t u).run P w = .ok () w := by
  simp [Instr.checkKey, run_underlying hu]
theorem check_bool {em : Bool} {t : TypeId} (hu : P.underlying t = some .bool) {u : Value} (d : Nat) : (Instr.checkKey em (d + 1) t u).run P w = .ok () w := by
  simp [Instr.checkKey, run_underlying hu]
theorem check_str {em : Bool} {t : TypeId} (hu : P.underlying t = some .string) {u : Value} (d : Nat) : (Instr.checkKey em (d + 1) t u).run P w = .ok () w := by
  simp [Instr.checkKey, run_underlying hu]

theorem check_sound {em : Bool} : ∀ (n : Nat) (d : Nat), n ≤ d → ∀ (e : TypeId) (offs : List (Nat × CK)), eqOffs P n e = some offs → ∀ (u : Value) (x : List AV) (r : Bool),
    Fit P e u x → RelL σ x u.cells.toList → eqAt x x offs = some r → (Instr.checkKey em d e u).run P w = .ok () w
  | 0, _, _, _, _, h, _, _, _, _, _, _ => by simp [eqOffs] at h
  | n + 1, d, hd, e, offs, h, u, x, r, fx, hx, hr => by
    obtain ⟨d, rfl⟩ : ∃ d', d = d' + 1 := ⟨d - 1, by omega⟩
    rcases eqOffs_cases h with ⟨c, rfl, _, hag, hck⟩ | hag
    · cases c with
      | int => obtain ⟨k, hu⟩ := hck; exact check_int hu d
      | bool => exact check_bool hck d
      | str => exact check_str hck d
    · obtain ⟨p, rfl⟩ := fx.1 hag
      have ih := fun e offs h u x r a b c => check_sound (em := em) n d (by omega) e offs h u x r a b c
      simp only [eqOffs] at h
      split at h
      · rename_i hu; simp [tyAgg, hu] at hag
      · rename_i hu; simp [tyAgg, hu] at hag
      · rename_i hu; simp [tyAgg, hu] at hag
      · rename_i fields hu
        split at h
        · cases h
        · have := check_fields (p := p) ih hx _ _ _ h hr
          simp only [Instr.checkKey, Sem.run_bind, run_underlying hu, Result.andThen_ok]
          rw [← Array.forIn_toList]
          rw [this]; simp
      · rename_i m e' hu
        split at h
        · rename_i os sz h1 h2
          split at h
          · rename_i ha
            simp only [Option.some.injEq] at h; subst h
            have := check_items (p := p) ih hx h1 h2 ha _ _ hr
            simp only [Instr.checkKey, Sem.run_bind, run_underlying hu, Result.andThen_ok]
            simp only [Std.Legacy.Range.forIn_eq_forIn_range', Std.Legacy.Range.size, Nat.sub_zero, Nat.add_one_sub_one, Nat.div_one]
            rw [← List.range_eq_range']
            rw [this]; simp
          · cases h
        · cases h
      · cases h

theorem key_check {em : Bool} {t : TypeId} {k : KK} (hk : KeyIs P t k) {x : AV} {u : Value} (hu : Rel σ x u) (h : (keyEq k x x).isSome = true) : (Instr.checkKey em 10000 t u).run P w = .ok () w := by
  cases hk with
  | one c hc =>
    cases c with
    | int => obtain ⟨k, hu⟩ := hc; exact check_int hu 9999
    | bool => exact check_bool hc 9999
    | str => exact check_str hc 9999
  | row os h1 h2 h3 =>
    cases x with
    | agg p =>
      obtain ⟨r, hr⟩ := Option.isSome_iff_exists.1 h
      obtain ⟨a, rfl, ha⟩ := hu
      exact check_sound 20 10000 (by omega) t os h1 _ _ r ⟨fun _ => ⟨_, rfl⟩, fun hh => by rw [h3] at hh; cases hh⟩ ha (eqAt_row os 0 _ _ r h2 rfl rfl hr)
    | _ => simp [keyEq] at h

theorem key_equal {t : TypeId} {os : List (Nat × CK)} (h1 : eqOffs P 20 t = some os) (h2 : os.map (·.1) = List.range' 0 os.length) (h3 : tyAgg P t = some true) {x y : AV} {u v : Value} (hu : Rel σ x u) (hv : Rel σ y v) {r : Bool}
    (h : keyEq (.row (os.map (·.2))) x y = some r) : (Op.equal t u v).run P w = .ok r w := by
  unfold keyEq at h
  split at h
  · rename_i hk; cases hk
  · rename_i cs p q hk
    cases hk
    obtain ⟨a, rfl, ha⟩ := hu
    obtain ⟨b, rfl, hb⟩ := hv
    exact equal_sound 20 10000 (by omega) t os h1 _ _ _ _ r ⟨fun _ => ⟨_, rfl⟩, fun hh => by rw [h3] at hh; cases hh⟩ ⟨fun _ => ⟨_, rfl⟩, fun hh => by rw [h3] at hh; cases hh⟩ ha hb (eqAt_row os 0 _ _ r h2 rfl rfl h)
  · cases h

theorem same_now {t : TypeId} {c : CK} (hc : CKOf P t c) {d : TypeDesc} (hd : P.underlying t = some d) {x y : AV} {u v : Value} (hu : Rel σ x u) (hv : Rel σ y v) {r : Bool} (h : eqCell c x y = some r) : Instr.sameNow d u v = some r := by
  unfold eqCell at h
  split at h
  · simp only [Rel] at hu hv; subst hu; subst hv
    obtain ⟨k, hk⟩ := hc
    rw [hd] at hk; cases hk
    split at h
    · rename_i hkk
      simp only [Option.some.injEq] at h; subst h
      simp only [Instr.sameNow, hkk, if_true]; congr 1
    · cases h
  · simp only [Rel] at hu hv; subst hu; subst hv
    have hk : P.underlying t = some .bool := hc
    rw [hd] at hk; cases hk
    exact h
  · simp only [Rel] at hu hv; subst hu; subst hv
    have hk : P.underlying t = some .string := hc
    rw [hd] at hk; cases hk
    simp only [Instr.sameNow, beq_toListBytes]; exact h
  · cases h

/-! ### Entries -/
theorem RelE.length : ∀ {es : List (AV × AV)} {l : List MapEntry}, RelE σ es l → es.length = l.length
  | [], _, h => by simp only [RelE] at h; subst h; rfl
  | (_, _) :: es, _, ⟨e, l', h1, _, _, h4⟩ => by subst h1; simp [RelE.length h4]
theorem RelE.get : ∀ {es : List (AV × AV)} {l : List MapEntry}, RelE σ es l → ∀ {i : Nat} {p : AV × AV}, es[i]? = some p → ∃ e, l[i]? = some e ∧ Rel σ p.1 e.key ∧ Rel σ p.2 e.val
  | [], _, _, i, p, hp => by simp at hp
  | (_, _) :: es, _, ⟨e, l', h1, h2, h3, h4⟩, 0, p, hp => by
    simp only [List.getElem?_cons_zero, Option.some.injEq] at hp; subst hp; subst h1
    exact ⟨e, rfl, h2, h3⟩
  | (_, _) :: es, _, ⟨e, l', h1, h2, h3, h4⟩, i + 1, p, hp => by
    subst h1
    obtain ⟨e', g1, g2⟩ := RelE.get h4 (by simpa using hp)
    exact ⟨e', by simpa using g1, g2⟩
theorem RelE.push : ∀ {es : List (AV × AV)} {l : List MapEntry}, RelE σ es l → ∀ {x y : AV} {e : MapEntry}, Rel σ x e.key → Rel σ y e.val → RelE σ (es ++ [(x, y)]) (l ++ [e])
  | [], _, h, x, y, e, hx, hy => by simp only [RelE] at h; subst h; exact ⟨e, [], rfl, hx, hy, rfl⟩
  | (_, _) :: es, _, ⟨e', l', h1, h2, h3, h4⟩, x, y, e, hx, hy => by subst h1; exact ⟨e', _, rfl, h2, h3, RelE.push h4 hx hy⟩
theorem RelE.modify : ∀ {es : List (AV × AV)} {l : List MapEntry}, RelE σ es l → ∀ {i : Nat} {x y : AV} {f : MapEntry → MapEntry}, (∀ e, l[i]? = some e → Rel σ x (f e).key ∧ Rel σ y (f e).val) → RelE σ (es.set i (x, y)) (l.modify i f)
  | [], _, h, i, x, y, f, hf => by simp only [RelE] at h; subst h; simp [RelE]
  | (_, _) :: es, _, ⟨e, l', h1, h2, h3, h4⟩, 0, x, y, f, hf => by
    subst h1
    obtain ⟨g1, g2⟩ := hf e rfl
    exact ⟨f e, l', rfl, g1, g2, h4⟩
  | (_, _) :: es, _, ⟨e, l', h1, h2, h3, h4⟩, i + 1, x, y, f, hf => by
    subst h1
    exact ⟨e, _, rfl, h2, h3, RelE.modify h4 fun e' he' => hf e' (by simpa using he')⟩
theorem RelE.erase : ∀ {es : List (AV × AV)} {l : List MapEntry}, RelE σ es l → ∀ (i : Nat), RelE σ (es.eraseIdx i) (l.eraseIdx i)
  | [], _, h, i => by simp only [RelE] at h; subst h; simp [RelE]
  | (_, _) :: es, _, ⟨e, l', h1, h2, h3, h4⟩, 0 => by subst h1; exact h4
  | (_, _) :: es, _, ⟨e, l', h1, h2, h3, h4⟩, i + 1 => by subst h1; exact ⟨e, _, rfl, h2, h3, RelE.erase h4 i⟩

theorem find_now {t : TypeId} {c : CK} (hc : CKOf P t c) {d : TypeDesc} (hd : P.underlying t = some d) {x : AV} {u : Value} (hu : Rel σ x u) : ∀ {es : List (AV × AV)} {l : List MapEntry}, RelE σ es l → ∀ {r : Option Nat}, findA (.one c) x es = some r → ∀ i0,
    match r with
    | none => Instr.findNow d u l i0 = some none
    | some i => ∃ p e, es[i]? = some p ∧ l[i]? = some e ∧ keyEq (.one c) x p.1 = some true ∧ Instr.findNow d u l i0 = some (some (i0 + i, e.val))
  | [], l, h, r, hr, i0 => by
    simp only [RelE] at h; subst h
    simp only [findA, Option.some.injEq] at hr; subst hr; rfl
  | (a, b) :: es, l, ⟨e, l', h1, h2, h3, h4⟩, r, hr, i0 => by
    subst h1
    simp only [findA] at hr
    split at hr
    · rename_i he
      simp only [Option.some.injEq] at hr; subst hr
      exact ⟨_, e, rfl, rfl, he, by simp [Instr.findNow, same_now hc hd hu h2 he]⟩
    · rename_i he
      have hs := same_now hc hd hu h2 he
      split at hr
      · rename_i i hf
        simp only [Option.some.injEq] at hr; subst hr
        obtain ⟨p, e', g1, g2, g3, g4⟩ := find_now hc hd hu h4 hf (i0 + 1)
        exact ⟨p, e', by simpa using g1, by simpa using g2, g3, by simp only [Instr.findNow, hs, g4]; congr 3; omega⟩
      · rename_i hf
        simp only [Option.some.injEq] at hr; subst hr
        have := find_now hc hd hu h4 hf (i0 + 1)
        simp only [Instr.findNow, hs]; exact this
      · cases hr
    · cases hr

theorem find_ask {t : TypeId} {os : List (Nat × CK)} (h1 : eqOffs P 20 t = some os) (h2 : os.map (·.1) = List.range' 0 os.length) (h3 : tyAgg P t = some true) {x : AV} {u : Value} (hu : Rel σ x u) :
    ∀ {es : List (AV × AV)} {l : List MapEntry}, RelE σ es l → ∀ {r : Option Nat}, findA (.row (os.map (·.2))) x es = some r → ∀ i0,
    match r with
    | none => (Instr.findAsking t u l i0).run P w = .ok none w
    | some i => ∃ p e, es[i]? = some p ∧ l[i]? = some e ∧ keyEq (.row (os.map (·.2))) x p.1 = some true ∧ (Instr.findAsking t u l i0).run P w = .ok (some (i0 + i, e.val)) w
  | [], l, h, r, hr, i0 => by
    simp only [RelE] at h; subst h
    simp only [findA, Option.some.injEq] at hr; subst hr; simp [Instr.findAsking]
  | (a, b) :: es, l, ⟨e, l', g1, g2, g3, g4⟩, r, hr, i0 => by
    subst g1
    simp only [findA] at hr
    split at hr
    · rename_i he
      simp only [Option.some.injEq] at hr; subst hr
      exact ⟨_, e, rfl, rfl, he, by simp [Instr.findAsking, key_equal h1 h2 h3 hu g2 he]⟩
    · rename_i he
      have hs := key_equal (w := w) h1 h2 h3 hu g2 he
      split at hr
      · rename_i i hf
        simp only [Option.some.injEq] at hr; subst hr
        obtain ⟨p, e', k1, k2, k3, k4⟩ := find_ask h1 h2 h3 hu g4 hf (i0 + 1)
        refine ⟨p, e', by simpa using k1, by simpa using k2, k3, ?_⟩
        simp only [Instr.findAsking, Sem.run_bind, hs, Result.andThen_ok, Bool.false_eq_true, if_false, k4]
        congr 3; omega
      · rename_i hf
        simp only [Option.some.injEq] at hr; subst hr
        have := find_ask h1 h2 h3 hu g4 hf (i0 + 1)
        simp only [Instr.findAsking, Sem.run_bind, hs, Result.andThen_ok, Bool.false_eq_true, if_false]; exact this
      · cases hr
    · cases hr

theorem find_sound {t : TypeId} {k : KK} (hk : KeyIs P t k) {x : AV} {u : Value} (hu : Rel σ x u) {es : List (AV × AV)} {l : List MapEntry} (he : RelE σ es l) {r : Option Nat} (hr : findA k x es = some r) :
    match r with
    | none => (Instr.findKey t u l).run P w = .ok none w
    | some i => ∃ p e, es[i]? = some p ∧ l[i]? = some e ∧ keyEq k x p.1 = some true ∧ (Instr.findKey t u l).run P w = .ok (some (i, e.val)) w := by
  cases hk with
  | one c hc =>
    obtain ⟨d, hd⟩ : ∃ d, P.underlying t = some d := by
      cases c with
      | int => obtain ⟨k, h⟩ := hc; exact ⟨_, h⟩
      | bool => exact ⟨_, hc⟩
      | str => exact ⟨_, hc⟩
    have := find_now hc hd hu he hr 0
    cases r with
    | none => exact MapKept.run_findKey hd this
    | some i =>
      obtain ⟨p, e, g1, g2, g3, g4⟩ := this
      exact ⟨p, e, g1, g2, g3, MapKept.run_findKey hd (by simpa using g4)⟩
  | row os h1 h2 h3 =>
    have hw : (match P.underlying t with | some (.array _ _) | some (.struct _) => true | _ => false) = true := by
      unfold tyAgg at h3
      split at h3
      · rename_i hu; simp [hu]
      · rename_i hu; simp [hu]
      · cases h3
      · cases h3
    have := find_ask (w := w) h1 h2 h3 hu he hr 0
    cases r with
    | none => rw [run_findKey_eq w hw]; exact this
    | some i =>
      obtain ⟨p, e, g1, g2, g3, g4⟩ := this
      exact ⟨p, e, g1, g2, g3, by rw [run_findKey_eq w hw]; simpa using g4⟩

/-! ### Operations -/
theorem mapKind_is {t : TypeId} {k : KK} {z : AV} (h : mapKind P t = some (k, z)) : ∃ kt et i zv, P.underlying t = some (.map kt et) ∧ KeyIs P kt k ∧ P.info? et = some i ∧ i.zero = some zv ∧ Rel σ z zv := by
  unfold mapKind at h
  split at h
  · rename_i kt et hu
    split at h
    · rename_i kk zv h1 h2
      split at h
      · rename_i z' hz
        simp only [Option.some.injEq, Prod.mk.injEq] at h
        obtain ⟨rfl, rfl⟩ := h
        obtain ⟨i, hi, h2⟩ := Option.bind_eq_some_iff.1 h2
        exact ⟨kt, et, i, zv, hu, keyKind_is h1, hi, h2, constAV_rel σ hz⟩
      · cases h
    · cases h
  · cases h

theorem mapAt_is (hk : HeapOK P B σ h w) {x : AV} {u : Value} (hu : Rel σ x u) {es : List (AV × AV)} (hm : mapAt h x = some es) :
    (u = .map none ∧ es = []) ∨ ∃ r arr clock, u = .map (some r) ∧ w.heap[r]? = some (.map arr clock) ∧ RelE σ es arr.toList := by
  unfold mapAt at hm
  split at hm
  · simp only [Option.some.injEq] at hm; exact .inl ⟨hu, hm.symm⟩
  · split at hm
    · rename_i es' hi
      simp only [Option.some.injEq] at hm; subst hm
      obtain ⟨l, hl, hv⟩ := hu
      obtain ⟨_, _, _, arr, h3, h4, _⟩ := hk.obj _ _ _ hi hl
      exact .inr ⟨_, arr, _, hv, h3, h4⟩
    · cases hm
  · cases hm

theorem snd_makeMap (hk : HeapOK P B σ h w) {s : TypeId} (hs : AOp.makeMap.sem (AOpd.ev t) h K) : Res P B σ h w ⟨dst, .makeMap s none, ty, pos, after, guard⟩ a K := by
  simp only [AOp.sem] at hs
  have hal := hk.allocO (x := .map [] [] 0) (.map #[] 0) 0 ⟨#[], rfl, rfl, rfl⟩
  refine ⟨.map (some w.heap.size), _, [_], .map h.length, _, .inl ?_, hal, ⟨⟨w.heap.size, 0, 0⟩, by rw [← hk.len]; simp, rfl⟩, Grow.alloc hk.len _ _ _ rfl, hs⟩
  simp [execOp, Instr.makeMap]

theorem snd_mapGet (hk : HeapOK P B σ h w) (ht : TOK σ t a) {s : TypeId} {ok : Bool} {k : KK} {z : AV} {m i : Operand} {am ai : AOpd} (hm : copd m = some am) (hi : copd i = some ai) (hmk : mapKind P s = some (k, z))
    (hs : (AOp.mapGet ok z k am ai).sem (AOpd.ev t) h K) : Res P B σ h w ⟨dst, .lookup s m i ok, ty, pos, after, guard⟩ a K := by
  have rm := copd_rel ht hm
  have ri := copd_rel ht hi
  obtain ⟨kt, et, info, zv, hu, hkt, hinf, hz, hzr⟩ := mapKind_is (σ := σ) hmk
  simp only [AOp.sem] at hs
  obtain ⟨hfit, hs⟩ := hs
  have hchk : ∀ em, (Instr.checkKey em 10000 kt (a.eval i)).run P w = .ok () w := fun em => key_check hkt ri hfit
  split at hs
  · rename_i es hes
    have hzero : (zeroValue et).run P w = .ok zv w := by simp [zeroValue, typeInfo, hinf, hz]
    rcases mapAt_is hk rm hes with ⟨e1, rfl⟩ | ⟨r, arr, clock, e1, hb, hre⟩
    · simp only [findA] at hs
      have hf : (Instr.findKey kt (a.eval i) (#[] : Array MapEntry).toList).run P w = .ok none w := find_sound (w := w) hkt ri (es := []) (l := []) rfl (r := none) rfl
      refine Res.pure hk (c := if ok = true then .tuple #[zv, .bool false] else zv) ?_ ?_ hs
      · simp [execOp, Instr.lookup, run_underlying hu, e1, hchk, hzero, show (Instr.findKey kt (a.eval i) []).run P w = .ok none w from hf]
      · cases ok
        · exact hzr
        · exact ⟨_, rfl, _, _, rfl, hzr, _, _, rfl, rfl, rfl⟩
    · have hg := MapKept.run_getObj_map (P := P) hb
      split at hs
      · rename_i n hfa
        split at hs
        · rename_i p hp
          obtain ⟨p', e, g1, g2, g3, g4⟩ := find_sound (w := w) hkt ri hre hfa
          obtain ⟨e', q1, q2, q3⟩ := hre.get hp
          have : e' = e := by rw [g2] at q1; exact (Option.some.inj q1).symm
          subst this
          refine Res.pure hk (c := if ok = true then .tuple #[e'.val, .bool true] else e'.val) ?_ ?_ hs
          · simp [execOp, Instr.lookup, run_underlying hu, e1, hg, hchk, g4]
          · cases ok
            · exact q3
            · exact ⟨_, rfl, _, _, rfl, q3, _, _, rfl, rfl, rfl⟩
        · cases hs
      · rename_i hfa
        have hf := find_sound (w := w) hkt ri hre hfa
        refine Res.pure hk (c := if ok = true then .tuple #[zv, .bool false] else zv) ?_ ?_ hs
        · simp [execOp, Instr.lookup, run_underlying hu, e1, hg, hchk, hzero, hf]
        · cases ok
          · exact hzr
          · exact ⟨_, rfl, _, _, rfl, hzr, _, _, rfl, rfl, rfl⟩
      · cases hs
  · cases hs

theorem map_put (hk : HeapOK P B σ h w) {id : Nat} {es es' : List (AV × AV)} {bs bs' : List Nat} {c c' : Nat} {l : Loc} (hi : h[id]? = some (.other (.map es bs c))) (hl : σ[id]? = some (some l)) {arr : Array MapEntry} (hb : w.heap[l.blk]? = some (.map arr c))
    (arr' : Array MapEntry) (hr : RelE σ es' arr'.toList) (hbs : arr'.toList.map (·.born) = bs') :
    HeapOK P B (σ ++ []) (h.set id (.other (.map es' bs' c'))) (w.putObj l.blk (.map arr' c')) ∧ Grow σ h w (σ ++ []) (h.set id (.other (.map es' bs' c'))) (w.putObj l.blk (.map arr' c')) := by
  rw [List.append_nil]
  refine ⟨hk.put hi hl _ ⟨arr', rfl, hr, hbs⟩, Grow.put hi rfl hl _ (Ctl.putObj w _ hb ?_ ?_)⟩
  · intro r e; cases e
  · intro d e; cases e

theorem erase_map : ∀ (l : List MapEntry) (n : Nat), (l.eraseIdx n).map (·.born) = (l.map (·.born)).eraseIdx n
  | [], n => by simp
  | e :: l, 0 => rfl
  | e :: l, n + 1 => by simp [erase_map l n]
theorem modify_born (arr : Array MapEntry) (n : Nat) (f : MapEntry → MapEntry) (hf : ∀ e, (f e).born = e.born := by intro e; rfl) : (arr.modify n f).toList.map (·.born) = arr.toList.map (·.born) := by
  apply List.ext_getElem?
  intro j
  simp only [List.getElem?_map, Array.getElem?_toList, Array.getElem?_modify]
  by_cases hj : n = j
  · subst hj
    cases arr[n]? with
    | none => simp
    | some e => simp [hf e]
  · simp [hj]
theorem map_same (hk : HeapOK P B σ h w) : HeapOK P B (σ ++ []) h w ∧ Grow σ h w (σ ++ []) h w := by
  rw [List.append_nil]; exact ⟨hk, Grow.refl _ _ _⟩

theorem snd_mapPut (hk : HeapOK P B σ h w) (ht : TOK σ t a) {s : TypeId} {k : KK} {z : AV} {m i x : Operand} {am ai ax : AOpd} (hm : copd m = some am) (hi : copd i = some ai) (hx : copd x = some ax) (hmk : mapKind P s = some (k, z))
    (hs : (AOp.mapPut k am ai ax).sem (AOpd.ev t) h K) : Res P B σ h w ⟨dst, .mapUpdate s m i x, ty, pos, after, guard⟩ a K := by
  have rm := copd_rel ht hm
  have ri := copd_rel ht hi
  have rx := copd_rel ht hx
  obtain ⟨kt, et, info, zv, hu, hkt, hinf, hz, hzr⟩ := mapKind_is (σ := σ) hmk
  simp only [AOp.sem] at hs
  obtain ⟨hfit, hs⟩ := hs
  have hchk : ∀ em, (Instr.checkKey em 10000 kt (a.eval i)).run P w = .ok () w := fun em => key_check hkt ri hfit
  split at hs
  · rename_i id hid
    split at hs
    · rename_i es bs clock hes
      rw [hid] at rm
      obtain ⟨l, hl, hv⟩ := rm
      obtain ⟨_, _, _, arr, hb, hre, hbn⟩ := hk.obj _ _ _ hes hl
      have hg := MapKept.run_getObj_map (P := P) hb
      split at hs
      · rename_i n hfa
        obtain ⟨p, e, g1, g2, g3, g4⟩ := find_sound (w := w) hkt ri hre hfa
        obtain ⟨e', q1, q2, q3⟩ := hre.get g1
        have : e' = e := by rw [g2] at q1; exact (Option.some.inj q1).symm
        subst this
        obtain ⟨hkey, hbits⟩ := keyEq_true g3 ri q2
        have hst : (Instr.keyThatStays e'.key (a.eval i)).run P w = .ok (a.eval i) w := by
          rw [hkey]; simp [Instr.keyThatStays, hbits]
        have ge : arr[n]? = some e' := by simpa using g2
        obtain ⟨m1, m2⟩ := map_put (c' := clock) (bs' := bs) hk hes hl hb (arr.modify n fun e => { e with key := a.eval i, val := a.eval x }) (es' := es.set n (ai.ev t, ax.ev t)) (by
          rw [Array.toList_modify]
          exact hre.modify fun e he => ⟨ri, rx⟩) (by rw [← hbn]; exact modify_born _ _ _)
        refine ⟨undef, _, [], .tuple [], _, .inr ⟨rfl, ?_⟩, m1, ⟨#[], rfl, rfl⟩, m2, hs⟩
        simp [execOp, Instr.mapUpdate, run_underlying hu, hv, hg, hchk, g4, ge, hst, MapKept.run_setObj_map _ hb, World.putObj]
      · rename_i hfa
        have hf := find_sound (w := w) hkt ri hre hfa
        obtain ⟨m1, m2⟩ := map_put (c' := clock + 1) (bs' := bs ++ [clock]) hk hes hl hb (arr.push { key := a.eval i, val := a.eval x, born := clock }) (es' := es ++ [(ai.ev t, ax.ev t)]) (by
          rw [Array.toList_push]; exact hre.push ri rx) (by simp [hbn])
        refine ⟨undef, _, [], .tuple [], _, .inr ⟨rfl, ?_⟩, m1, ⟨#[], rfl, rfl⟩, m2, hs⟩
        simp [execOp, Instr.mapUpdate, run_underlying hu, hv, hg, hchk, hf, MapKept.run_setObj_map _ hb, World.putObj]
      · cases hs
    · cases hs
  · cases hs

theorem snd_mapDel (hk : HeapOK P B σ h w) (ht : TOK σ t a) {s : TypeId} {k : KK} {z : AV} {m i : Operand} {am ai : AOpd} (hm : copd m = some am) (hi : copd i = some ai) (hmk : mapKind P s = some (k, z))
    {args : Array Operand} {ats : Array TypeId} {rest : List TypeId} (ha : args.toList = [m, i]) (hts : ats.toList = s :: rest)
    (hs : (AOp.mapDel k am ai).sem (AOpd.ev t) h K) : Res P B σ h w ⟨dst, .call { callee := .builtin .delete, args, argTypes := ats }, ty, pos, after, guard⟩ a K := by
  have rm := copd_rel ht hm
  have ri := copd_rel ht hi
  have e1 : args = #[m, i] := by apply Array.ext'; simpa using ha
  have e2 : ats[0]? = some s := by have := congrArg (·[0]?) hts; simpa using this
  subst e1
  obtain ⟨kt, et, info, zv, hu, hkt, hinf, hz, hzr⟩ := mapKind_is (σ := σ) hmk
  simp only [AOp.sem] at hs
  obtain ⟨hfit, hs⟩ := hs
  have hchk : ∀ em, (Instr.checkKey em 10000 kt (a.eval i)).run P w = .ok () w := fun em => key_check hkt ri hfit
  split at hs
  · rename_i id hid
    split at hs
    · rename_i es bs clock hes
      rw [hid] at rm
      obtain ⟨l, hl, hv⟩ := rm
      obtain ⟨_, _, _, arr, hb, hre, hbn⟩ := hk.obj _ _ _ hes hl
      have hg := MapKept.run_getObj_map (P := P) hb
      split at hs
      · rename_i n hfa
        obtain ⟨p, e, g1, g2, g3, g4⟩ := find_sound (w := w) hkt ri hre hfa
        have hera : (arr.eraseIdxIfInBounds n).toList = arr.toList.eraseIdx n := by
            unfold Array.eraseIdxIfInBounds
            split
            · simp
            · rw [List.eraseIdx_of_length_le]; simp; omega
        obtain ⟨m1, m2⟩ := map_put (c' := clock) (bs' := bs.eraseIdx n) hk hes hl hb (arr.eraseIdxIfInBounds n) (es' := es.eraseIdx n) (by
          have : (arr.eraseIdxIfInBounds n).toList = arr.toList.eraseIdx n := by
            unfold Array.eraseIdxIfInBounds
            split
            · simp
            · rw [List.eraseIdx_of_length_le]; simp; omega
          rw [this]; exact hre.erase n) (by rw [hera, ← hbn, erase_map])
        refine ⟨.tuple #[], _, [], .tuple [], _, .inl ?_, m1, ⟨#[], rfl, rfl⟩, m2, hs⟩
        simp [execOp, resolve, invoke, builtin, Builtin.delete_, e2, run_underlying hu, hv, hg, hchk, g4, MapKept.run_setObj_map _ hb, World.putObj]
      · rename_i hfa
        have hf := find_sound (w := w) hkt ri hre hfa
        have hset : ({ w with heap := w.heap.setIfInBounds l.blk (.map arr clock) } : World) = w := by
          have : w.heap.setIfInBounds l.blk (.map arr clock) = w.heap := by
            apply Array.ext_getElem?
            intro j
            rw [Array.getElem?_setIfInBounds]
            split
            · rename_i hj
              subst hj
              exact hb.symm
            · rfl
          rw [this]
        obtain ⟨m1, m2⟩ := map_same hk
        refine ⟨.tuple #[], _, [], .tuple [], _, .inl ?_, m1, ⟨#[], rfl, rfl⟩, m2, hs⟩
        simp [execOp, resolve, invoke, builtin, Builtin.delete_, e2, run_underlying hu, hv, hg, hchk, hf, MapKept.run_setObj_map _ hb, hset]
      · cases hs
    · cases hs
  · cases hs

theorem snd_mapClear (hk : HeapOK P B σ h w) (ht : TOK σ t a) {s kt et : TypeId} {m : Operand} {am : AOpd} (hm : copd m = some am) (hu : P.underlying s = some (.map kt et))
    {args : Array Operand} {ats : Array TypeId} (ha : args.toList = [m]) (hts : ats.toList = [s])
    (hs : (AOp.mapClear am).sem (AOpd.ev t) h K) : Res P B σ h w ⟨dst, .call { callee := .builtin .clear, args, argTypes := ats }, ty, pos, after, guard⟩ a K := by
  have rm := copd_rel ht hm
  have e1 : args = #[m] := by apply Array.ext'; simpa using ha
  have e2 : ats = #[s] := by apply Array.ext'; simpa using hts
  subst e1; subst e2
  simp only [AOp.sem] at hs
  split at hs
  · rename_i id hid
    split at hs
    · rename_i es bs clock hes
      rw [hid] at rm
      obtain ⟨l, hl, hv⟩ := rm
      obtain ⟨_, _, _, arr, hb, hre, hbn⟩ := hk.obj _ _ _ hes hl
      have hg := MapKept.run_getObj_map (P := P) hb
      obtain ⟨m1, m2⟩ := map_put (bs' := []) (c' := clock) hk hes hl hb #[] (es' := []) rfl rfl
      refine ⟨.tuple #[], _, [], .tuple [], _, .inl ?_, m1, ⟨#[], rfl, rfl⟩, m2, hs⟩
      simp [execOp, resolve, invoke, builtin, Builtin.clear_, run_underlying hu, hv, hg, MapKept.run_setObj_map _ hb, World.putObj]
    · cases hs
  · cases hs

theorem iter_put (hk : HeapOK P B σ h w) {id m m' since last last' : Nat} {seen seen' : List Nat} {l lm : Loc} (hi : h[id]? = some (.other (.iter (some m) since seen last))) (hl : σ[id]? = some (some l)) (hm : σ[m]? = some (some lm)) (hb : w.heap[l.blk]? = some (.mapIter (some lm.blk) since seen.toArray last)) :
    HeapOK P B (σ ++ []) (h.set id (.other (.iter (some m) since seen' last'))) (w.putObj l.blk (.mapIter (some lm.blk) since seen'.toArray last')) ∧ Grow σ h w (σ ++ []) (h.set id (.other (.iter (some m) since seen' last'))) (w.putObj l.blk (.mapIter (some lm.blk) since seen'.toArray last')) := by
  rw [List.append_nil]
  refine ⟨hk.put hi hl _ ⟨_, rfl, .inr ⟨m, lm, rfl, hm, rfl⟩⟩, Grow.put hi rfl hl _ (Ctl.putObj w _ hb ?_ ?_)⟩
  · intro r e; cases e
  · intro d e; cases e

theorem snd_rangeM (hk : HeapOK P B σ h w) (ht : TOK σ t a) {s kt et : TypeId} {m : Operand} {am : AOpd} (hm : copd m = some am) (hu : P.underlying s = some (.map kt et))
    (hs : (AOp.rangeM am).sem (AOpd.ev t) h K) : Res P B σ h w ⟨dst, .range s m, ty, pos, after, guard⟩ a K := by
  have rm := copd_rel ht hm
  simp only [AOp.sem] at hs
  split at hs
  · rename_i hid
    rw [hid] at rm
    simp only [Rel] at rm
    have hal := hk.allocO (x := .iter none 0 [] 0) (.mapIter none 0 #[] 0) 0 ⟨_, rfl, .inl ⟨rfl, rfl⟩⟩
    refine ⟨.pointer (some ⟨w.heap.size, 0, none⟩), _, [_], .ptr h.length 0, _, .inl ?_, hal, ⟨⟨w.heap.size, 0, 0⟩, by rw [← hk.len]; simp, rfl⟩, Grow.alloc hk.len _ _ _ rfl, hs⟩
    simp [execOp, Instr.range, run_underlying hu, rm]
  · rename_i id hid
    split at hs
    · rename_i es bs c hes
      rw [hid] at rm
      obtain ⟨l, hl, hv⟩ := rm
      obtain ⟨_, _, _, arr, hb, hre, hbn⟩ := hk.obj _ _ _ hes hl
      have hg := MapKept.run_getObj_map (P := P) hb
      have hlt : id < σ.length := get_some_lt hl
      have hal := hk.allocO (x := .iter (some id) c [] c) (.mapIter (some l.blk) c #[] c) 0 ⟨_, rfl, .inr ⟨id, l, rfl, by rw [List.getElem?_append_left hlt]; exact hl, rfl⟩⟩
      refine ⟨.pointer (some ⟨w.heap.size, 0, none⟩), _, [_], .ptr h.length 0, _, .inl ?_, hal, ⟨⟨w.heap.size, 0, 0⟩, by rw [← hk.len]; simp, rfl⟩, Grow.alloc hk.len _ _ _ rfl, hs⟩
      simp [execOp, Instr.range, run_underlying hu, hv, hg]
    · cases hs
  · cases hs

theorem left_filter {seen : List Nat} : ∀ {es : List (AV × AV)} {l : List MapEntry} {bs : List Nat}, RelE σ es l → l.map (·.born) = bs →
    (leftA es bs seen).length = (l.filter fun e => !seen.contains e.born).length ∧ ∀ (i : Nat) p b, (leftA es bs seen)[i]? = some (p, b) → ∃ e, (l.filter fun e => !seen.contains e.born)[i]? = some e ∧ e.born = b ∧ Rel σ p.1 e.key ∧ Rel σ p.2 e.val
  | [], l, bs, h, hb => by
    simp only [RelE] at h; subst h
    simp only [List.map_nil] at hb; subst hb
    simp [leftA]
  | (x, y) :: es, l, bs, ⟨e, l', h1, h2, h3, h4⟩, hb => by
    subst h1
    simp only [List.map_cons] at hb; subst hb
    obtain ⟨i1, i2⟩ := left_filter (seen := seen) h4 rfl
    simp only [leftA, List.filter_cons]
    by_cases hc : seen.contains e.born = true
    · simp only [hc, if_true, Bool.not_true, Bool.false_eq_true, if_false]; exact ⟨i1, i2⟩
    · have hc' : (!seen.contains e.born) = true := by simpa using hc
      simp only [hc, hc', if_false, if_true]
      refine ⟨by simp [i1], fun i p b hp => ?_⟩
      cases i with
      | zero =>
        cases hp
        exact ⟨e, rfl, rfl, h2, h3⟩
      | succ i => simpa using i2 i p b (by simpa using hp)

theorem next_over {ty : TypeId} {r m since last clock : Nat} {seen : Array Nat} {arr : Array MapEntry} (hg : (getObj r).run P w = .ok (.mapIter (some m) since seen last) w) (hgm : (getObj m).run P w = .ok (.map arr clock) w)
    (hguard : (!seen.isEmpty && !arr.isEmpty && arr.all fun x => decide (x.born ≥ last)) = false) (hl : (arr.filter fun e => !seen.contains e.born) = #[]) : (Instr.next (.pointer (some ⟨r, 0, none⟩)) false ty).run P w = .ok (.tuple #[.bool false]) w := by
  simp only [Instr.next, Sem.run_bind, hg, hgm, Result.andThen_ok, hguard, hl, Bool.false_eq_true, if_false, Sem.run_pure]
  simp [Question.forced]
theorem next_some {ty : TypeId} {r m since last clock : Nat} {seen : Array Nat} {arr : Array MapEntry} {o1 : Option Nat} {o2 : Nat} {o3 : Array Nat} {o4 : Nat} (hb : w.heap[r]? = some (.mapIter o1 o2 o3 o4)) (hg : (getObj r).run P w = .ok (.mapIter (some m) since seen last) w) (hgm : (getObj m).run P w = .ok (.map arr clock) w)
    (hguard : (!seen.isEmpty && !arr.isEmpty && arr.all fun x => decide (x.born ≥ last)) = false) (hne : 0 < (arr.filter fun e => !seen.contains e.born).size) (hlt : ∀ e ∈ (arr.filter fun e => !seen.contains e.born), e.born < since) :
    ∃ (i : Nat) (e : MapEntry) (w1 : World) (hi : i < (arr.filter fun e => !seen.contains e.born).size), (arr.filter fun e => !seen.contains e.born)[i] = e ∧ (w1 = w ∨ w1 = w.drew) ∧
      (Instr.next (.pointer (some ⟨r, 0, none⟩)) false ty).run P w = .ok (.tuple #[.bool true, e.key, e.val]) (w1.putObj r (.mapIter (some m) since (seen.push e.born) clock)) := by
  have hset : ∀ o', (setObj r o').run P w = .ok () (w.putObj r o') := fun o' => by simp [setObj, Sem.run, hb, World.putObj]
  have hb' : w.drew.heap[r]? = some (.mapIter o1 o2 o3 o4) := hb
  have hset' : ∀ o', (setObj r o').run P w.drew = .ok () (w.drew.putObj r o') := fun o' => by simp [setObj, Sem.run, hb', World.putObj]
  have h1 : (arr.filter fun e => !seen.contains e.born).filter (fun e => decide (e.born < since)) = (arr.filter fun e => !seen.contains e.born) :=
    Array.filter_eq_self.2 fun e he => by simpa using hlt e he
  have h2 : (arr.filter fun e => !seen.contains e.born).filter (fun e => decide (e.born ≥ since)) = #[] :=
    Array.filter_eq_empty_iff.2 fun e he => by simpa using hlt e he
  generalize hL : (arr.filter fun e => !seen.contains e.born) = L at hne hlt h1 h2 ⊢
  have hem : L.isEmpty = false := by
    rw [Bool.eq_false_iff]; intro h; rw [Array.isEmpty_iff_size_eq_zero] at h; omega
  have hcand : ∀ (i : Nat) (hi : i < L.size), (#[] ++ (L ++ #[]).map some)[i]? = some (some L[i]) := by
    intro i hi
    simp [hi]
  have hsz : (#[] ++ (L ++ #[]).map some : Array (Option MapEntry)).size = L.size := by simp
  by_cases hf : (Question.mapNext L.size).forced = true
  · refine ⟨0, L[0], w, hne, rfl, .inl rfl, ?_⟩
    simp only [Instr.next, Sem.run_bind, hg, hgm, Result.andThen_ok, hguard, hL, h1, h2, hem, Bool.false_eq_true, if_false, Sem.run_pure, hsz, choose, Sem.run, hf, if_true, hcand 0 hne, hset]
  · have hi : (Question.mapNext L.size).cut (w.tape w.drawn (.mapNext L.size)) < L.size := Nat.mod_lt _ hne
    refine ⟨_, _, w.drew, hi, rfl, .inr rfl, ?_⟩
    simp only [Instr.next, Sem.run_bind, hg, hgm, Result.andThen_ok, hguard, hL, h1, h2, hem, Bool.false_eq_true, if_false, Sem.run_pure, hsz, choose, Sem.run, hf, hcand _ hi]
    rw [show ({ w with drawn := w.drawn + 1 } : World) = w.drew from rfl]
    simp only [hset', Result.andThen_ok]

theorem snd_nextM (hk : HeapOK P B σ h w) (ht : TOK σ t a) {it : Operand} {ai : AOpd} (hi : copd it = some ai)
    (hs : nextAny (ai.ev t) h K) : Res P B σ h w ⟨dst, .next it false, ty, pos, after, guard⟩ a K := by
  have ri := copd_rel ht hi
  unfold nextAny at hs
  split at hs
  · rename_i id hid
    rw [hid] at ri
    obtain ⟨l, hl, hv⟩ := ri
    split at hs
    · rename_i s1 s2 s3 hob
      obtain ⟨_, _, hb0, m', hb, hm⟩ := hk.obj _ _ _ hob hl
      have : m' = none := by
        rcases hm with ⟨_, h⟩ | ⟨_, _, h, _⟩
        · exact h
        · cases h
      subst this
      have hg : (getObj l.blk).run P w = .ok (.mapIter none s1 s2.toArray s3) w := by simp [getObj, Sem.run, hb]
      refine Res.pure hk (c := .tuple #[.bool false]) ?_ (by exact ⟨_, rfl, _, _, rfl, rfl, rfl⟩) hs
      simp [execOp, Instr.next, hv, hb0, hg]
    · rename_i m since seen last hob
      obtain ⟨_, _, hb0, m', hb, hm⟩ := hk.obj _ _ _ hob hl
      obtain ⟨lm, hlm, rfl⟩ : ∃ lm, σ[m]? = some (some lm) ∧ m' = some lm.blk := by
        rcases hm with ⟨h, _⟩ | ⟨id', lm, h1, h2, h3⟩
        · cases h
        · cases h1; exact ⟨lm, h2, h3⟩
      have hg : (getObj l.blk).run P w = .ok (.mapIter (some lm.blk) since seen.toArray last) w := by simp [getObj, Sem.run, hb]
      split at hs
      · rename_i es bs c hes
        obtain ⟨_, _, _, arr, hbm, hre, hbn⟩ := hk.obj _ _ _ hes hlm
        have hgm := MapKept.run_getObj_map (P := P) hbm
        obtain ⟨hcond, hs⟩ := hs
        obtain ⟨f1, f2⟩ := left_filter (seen := seen) hre hbn
        have hsz : es.length = arr.size := by simpa using hre.length
        have hguard : (!seen.toArray.isEmpty && !arr.isEmpty && arr.all fun x => decide (x.born ≥ last)) = false := by
          have e1 : seen.toArray.isEmpty = seen.isEmpty := by cases seen <;> rfl
          have e2 : arr.isEmpty = es.isEmpty := by
            rw [Bool.eq_iff_iff]
            simp only [Array.isEmpty_iff_size_eq_zero, List.isEmpty_iff_length_eq_zero, hsz]
          have e3 : (arr.all fun x => decide (x.born ≥ last)) = bs.all fun b => decide (last ≤ b) := by
            rw [← hbn, List.all_map, ← Array.all_toList]; rfl
          rw [e1, e2, e3]
          revert hcond
          cases seen.isEmpty <;> cases es.isEmpty <;> cases (bs.all fun b => decide (last ≤ b)) <;> simp
        have hfl : (arr.filter fun e => !seen.toArray.contains e.born).toList = arr.toList.filter fun e => !seen.contains e.born := by
          rw [Array.toList_filter]; congr 1; funext e; simp
        split at hs
        · rename_i hleft
          rw [hleft] at f1
          have hempty : (arr.filter fun e => !seen.toArray.contains e.born) = #[] := by
            apply Array.ext'
            rw [hfl]
            exact List.eq_nil_of_length_eq_zero (by simpa using f1.symm)
          refine Res.pure hk (c := .tuple #[.bool false]) ?_ (by exact ⟨_, rfl, _, _, rfl, rfl, rfl⟩) hs
          simp only [execOp, hv, hb0, Nat.add_zero, Sem.run_bind, next_over hg hgm hguard hempty, Result.andThen_ok, Sem.run_pure]
        · rename_i x0 r0 hleft
          rw [← hleft] at hs
          have hlen : (arr.filter fun e => !seen.toArray.contains e.born).size = (leftA es bs seen).length := by
            rw [← Array.length_toList, hfl]; exact f1.symm
          have hne : 0 < (arr.filter fun e => !seen.toArray.contains e.born).size := by rw [hlen, hleft]; simp
          have hlt : ∀ e ∈ (arr.filter fun e => !seen.toArray.contains e.born), e.born < since := by
            intro e he
            have he' : e ∈ (arr.toList.filter fun e => !seen.contains e.born) := by rw [← hfl]; simpa using he
            obtain ⟨i, hi, hie⟩ := List.mem_iff_getElem.1 he'
            have hi' : i < (leftA es bs seen).length := by rw [f1]; exact hi
            obtain ⟨e2, g1, g2, _, _⟩ := f2 i _ _ (List.getElem?_eq_getElem hi')
            rw [List.getElem?_eq_getElem hi, hie] at g1
            cases g1
            rw [g2]
            exact (hs _ (List.getElem_mem hi')).1
          obtain ⟨i, e, w1, hi, hie, hw1, hrun⟩ := next_some (ty := ty) hb hg hgm hguard hne hlt
          have hi' : i < (leftA es bs seen).length := by rw [← hlen]; exact hi
          obtain ⟨e2, g1, g2, g3, g4⟩ := f2 i _ _ (List.getElem?_eq_getElem hi')
          have hee : e2 = e := by
            have h1 : (arr.toList.filter fun e => !seen.contains e.born)[i]? = some e := by
              rw [← hfl, Array.getElem?_toList, Array.getElem?_eq_getElem hi, hie]
            rw [h1] at g1; cases g1; rfl
          subst hee
          obtain ⟨_, hs⟩ := hs _ (List.getElem_mem hi')
          have hk1 : HeapOK P B σ h w1 := by
            rcases hw1 with rfl | rfl
            · exact hk
            · exact hk.heap_eq rfl
          have hg1 : Grow σ h w σ h w1 := by
            rcases hw1 with rfl | rfl
            · exact Grow.refl _ _ _
            · exact Grow.drew _ _ _
          have hb1 : w1.heap[l.blk]? = some (.mapIter (some lm.blk) since seen.toArray last) := by
            rcases hw1 with rfl | rfl <;> exact hb
          obtain ⟨m1, m2⟩ := iter_put (m' := 0) (seen' := seen ++ [(leftA es bs seen)[i].2]) (last' := c) hk1 hob hl hlm hb1
          refine ⟨.tuple #[.bool true, e2.key, e2.val], _, [], .tuple [.bool true, (leftA es bs seen)[i].1.1, (leftA es bs seen)[i].1.2], _, .inl ?_, m1, ⟨_, rfl, _, _, rfl, rfl, _, _, rfl, by rw [List.append_nil]; exact g3, _, _, rfl, by rw [List.append_nil]; exact g4, rfl⟩, hg1.trans m2, hs⟩
          have epush : (seen ++ [(leftA es bs seen)[i].2]).toArray = seen.toArray.push e2.born := by rw [g2]; simp
          simp only [execOp, hv, hb0, Nat.add_zero, Sem.run_bind, hrun, Result.andThen_ok, Sem.run_pure, epush]
      · cases hs
    · cases hs
  · cases hs

theorem entry_find : ∀ {es : List (AV × AV)} {l : List MapEntry} {bs : List Nat} {s : Nat} {p : AV × AV}, RelE σ es l → l.map (·.born) = bs → entryA es bs s = some p → ∃ e, l.find? (·.born == s) = some e ∧ Rel σ p.1 e.key ∧ Rel σ p.2 e.val
  | [], l, bs, s, p, h, hb, hp => by simp [entryA] at hp
  | (x, y) :: es, l, bs, s, p, ⟨e, l', h1, h2, h3, h4⟩, hb, hp => by
    subst h1
    simp only [List.map_cons] at hb; subst hb
    simp only [entryA] at hp
    simp only [List.find?_cons]
    split at hp
    · rename_i hs
      cases hp
      exact ⟨e, by simp [hs], h2, h3⟩
    · rename_i hs
      have : (e.born == s) = false := by simpa using hs
      rw [this]
      exact entry_find h4 rfl hp
theorem snd_entryM (hk : HeapOK P B σ h w) (ht : TOK σ t a) {it : Operand} {ai : AOpd} (hi : copd it = some ai)
    (hs : (AOp.entryM ai).sem (AOpd.ev t) h K) : Res P B σ h w ⟨dst, .entry it, ty, pos, after, guard⟩ a K := by
  have ri := copd_rel ht hi
  simp only [AOp.sem] at hs
  split at hs
  · rename_i id hid
    rw [hid] at ri
    obtain ⟨l, hl, hv⟩ := ri
    split at hs
    · rename_i m since seen last hob
      obtain ⟨_, _, hb0, m', hb, hm⟩ := hk.obj _ _ _ hob hl
      obtain ⟨lm, hlm, rfl⟩ : ∃ lm, σ[m]? = some (some lm) ∧ m' = some lm.blk := by
        rcases hm with ⟨h, _⟩ | ⟨id', lm, h1, h2, h3⟩
        · cases h
        · cases h1; exact ⟨lm, h2, h3⟩
      have hg : (getObj l.blk).run P w = .ok (.mapIter (some lm.blk) since seen.toArray last) w := by simp [getObj, Sem.run, hb]
      split at hs
      · rename_i b hbk
        split at hs
        · rename_i es bs c hes
          obtain ⟨_, _, _, arr, hbm, hre, hbn⟩ := hk.obj _ _ _ hes hlm
          have hgm := MapKept.run_getObj_map (P := P) hbm
          obtain ⟨rfl, hs⟩ := hs
          split at hs
          · rename_i p hp
            obtain ⟨e, g1, g2, g3⟩ := entry_find hre hbn hp
            have hf : arr.find? (·.born == b) = some e := by rw [← Array.find?_toList]; exact g1
            have hbk' : seen.toArray.back? = some b := by rw [List.back?_toArray]; exact hbk
            refine Res.pure hk (c := .tuple #[e.key, e.val]) ?_ (by exact ⟨_, rfl, _, _, rfl, g2, _, _, rfl, g3, rfl⟩) hs
            simp only [execOp, hv, hb0, Nat.add_zero, Instr.entry, Sem.run_bind, hg, hgm, hbk', Result.andThen_ok, hf, bne_self_eq_false, Bool.false_eq_true, if_false, Sem.run_pure]
          · cases hs
        · cases hs
      · cases hs
    · cases hs
  · cases hs

theorem snd_lenM (hk : HeapOK P B σ h w) (ht : TOK σ t a) {s kt et : TypeId} {m : Operand} {am : AOpd} (hm : copd m = some am) (hu : P.underlying s = some (.map kt et))
    {args : Array Operand} {ats : Array TypeId} (ha : args.toList = [m]) (hts : ats.toList = [s])
    (hs : (AOp.lenM am).sem (AOpd.ev t) h K) : Res P B σ h w ⟨dst, .call { callee := .builtin .len, args, argTypes := ats }, ty, pos, after, guard⟩ a K := by
  have rm := copd_rel ht hm
  have e1 : args = #[m] := by apply Array.ext'; simpa using ha
  have e2 : ats = #[s] := by apply Array.ext'; simpa using hts
  subst e1; subst e2
  simp only [AOp.sem] at hs
  split at hs
  · rename_i es hes
    rcases mapAt_is hk rm hes with ⟨e1, rfl⟩ | ⟨r, arr, clock, e1, hb, hre⟩
    · exact Res.pure hk (c := .int .i64 0) (by simp [execOp, resolve, invoke, builtin, Builtin.len_, run_underlying hu, e1, goInt]) (by exact rfl) hs
    · have := hre.length
      refine Res.pure hk (c := .int .i64 es.length) ?_ (by exact rfl) hs
      simp [execOp, resolve, invoke, builtin, Builtin.len_, run_underlying hu, e1, MapKept.run_getObj_map (P := P) hb, goInt, this]
  · cases hs
end
end Go.Abs
