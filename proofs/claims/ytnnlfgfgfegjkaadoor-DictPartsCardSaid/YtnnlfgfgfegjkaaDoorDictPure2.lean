/- Plain facts of layer 10: how two maps differ. No program is imported. -/
import Derived.Test.YtnnlfgfgfegjkaaDoorDictPure
namespace Go.Proofs.YtnnlfgfgfegjkaaDoor
open Go.RowKit
set_option linter.unusedSimpArgs false

/-- A change: Key, Had, Has, Was, Is. -/
abbrev Chg := ByteArray × Bool × Bool × Int × Int
abbrev chgC (c : Chg) : Array Value := #[.string c.1, .bool c.2.1, .bool c.2.2.1, .int .i64 c.2.2.2.1, .int .i64 c.2.2.2.2]
def chgE (A B : List Ent) (k : ByteArray) : Chg := (k, (getE A k).isSome, (getE B k).isSome, (getE A k).getD 0, (getE B k).getD 0)
/-- Is it one that counts? -/
def isChg (al : Int → Int → Bool) (c : Chg) : Bool := !(c.2.1 && c.2.2.1 && al c.2.2.2.1 c.2.2.2.2)
def chgsE (al : Int → Int → Bool) (A B : List Ent) (ks : List ByteArray) : List Chg := (ks.map (chgE A B)).filter (isChg al)
def difE (al : Int → Int → Bool) (A B : List Ent) : List Chg := chgsE al A B (keysE (uniE A B))
def turnC (c : Chg) : Chg := (c.1, c.2.2.1, c.2.1, c.2.2.2.2, c.2.2.2.1)
theorem turn_turn (c : Chg) : turnC (turnC c) = c := rfl
def appC (L : List Ent) (c : Chg) : List Ent := if c.2.2.1 = true then insE L c.1 c.2.2.2.2 else delE L c.1
def appsE (L : List Ent) (l : List Chg) : List Ent := l.foldl appC L
theorem apps_nil (L : List Ent) : appsE L [] = L := rfl
theorem apps_snoc (L : List Ent) (l : List Chg) (c : Chg) : appsE L (l ++ [c]) = appC (appsE L l) c := by simp [appsE]
theorem apps_take (L : List Ent) {l : List Chg} {j : Nat} (hj : j < l.length) : appsE L (l.take (j + 1)) = appC (appsE L (l.take j)) l[j] := by
  rw [List.take_succ_eq_append_getElem hj, apps_snoc]
theorem appC_rise {L : List Ent} (h : Rise L) (c : Chg) : Rise (appC L c) := by
  unfold appC
  split
  · exact h.ins _ _
  · exact h.del _
theorem appC_len {L : List Ent} (h : Rise L) (c : Chg) : (appC L c).length ≤ L.length + 1 := by
  unfold appC
  split
  · rw [len_ins h]; split <;> omega
  · rw [len_del h]; split <;> omega
theorem apps_rise {L : List Ent} (h : Rise L) : ∀ l : List Chg, Rise (appsE L l) := by
  intro l
  induction l generalizing L with
  | nil => exact h
  | cons c l ih => exact ih (appC_rise h c)
theorem apps_len {L : List Ent} (h : Rise L) : ∀ l : List Chg, (appsE L l).length ≤ L.length + l.length := by
  intro l
  induction l generalizing L with
  | nil => simp [appsE]
  | cons c l ih =>
    have h1 := ih (appC_rise h c)
    have h2 := appC_len h c
    show (appsE (appC L c) l).length ≤ _
    rw [List.length_cons]
    omega
theorem chgs_nil (al : Int → Int → Bool) (A B : List Ent) : chgsE al A B [] = [] := rfl
theorem chgs_cons (al : Int → Int → Bool) (A B : List Ent) (k : ByteArray) (ks : List ByteArray) : chgsE al A B (k :: ks) = (if isChg al (chgE A B k) = true then [chgE A B k] else []) ++ chgsE al A B ks := by
  unfold chgsE
  rw [List.map_cons]
  by_cases h : isChg al (chgE A B k) = true
  · rw [List.filter_cons_of_pos h, if_pos h]; rfl
  · rw [List.filter_cons_of_neg h, if_neg h]; rfl
theorem chgs_take (al : Int → Int → Bool) (A B : List Ent) {ks : List ByteArray} {j : Nat} (hj : j < ks.length) : chgsE al A B (ks.take (j + 1)) = chgsE al A B (ks.take j) ++ (if isChg al (chgE A B ks[j]) = true then [chgE A B ks[j]] else []) := by
  rw [List.take_succ_eq_append_getElem hj]
  unfold chgsE
  rw [List.map_append, List.filter_append]
  congr 1
  rw [List.map_singleton]
  by_cases h : isChg al (chgE A B ks[j]) = true
  · rw [List.filter_cons_of_pos h, if_pos h]; rfl
  · rw [List.filter_cons_of_neg h, if_neg h]; rfl
theorem chgs_len (al : Int → Int → Bool) (A B : List Ent) (ks : List ByteArray) : (chgsE al A B ks).length ≤ ks.length := by
  unfold chgsE
  have := List.length_filter_le (isChg al) (ks.map (chgE A B))
  rwa [List.length_map] at this
theorem chgs_key {al : Int → Int → Bool} {A B : List Ent} {ks : List ByteArray} {c : Chg} (h : c ∈ chgsE al A B ks) : c.1 ∈ ks ∧ c = chgE A B c.1 ∧ isChg al c = true := by
  obtain ⟨h1, h2⟩ := List.mem_filter.1 h
  obtain ⟨k, hk, rfl⟩ := List.mem_map.1 h1
  exact ⟨hk, rfl, h2⟩

/-! two lists of keys, merged -/
def RiseK (l : List ByteArray) : Prop := l.Pairwise fun a b => kb a < kb b
theorem Rise.keys {L : List Ent} (h : Rise L) : RiseK (keysE L) := List.pairwise_map.2 h
theorem riseK_ext {l m : List ByteArray} (hl : RiseK l) (hm : RiseK m) (h : ∀ k, k ∈ l ↔ k ∈ m) : l = m := by
  have nd : ∀ {l : List ByteArray}, RiseK l → l.Nodup := fun h => List.Pairwise.imp (fun hab e => lt_ne hab e) h
  exact ((List.perm_ext_iff_of_nodup (nd hl) (nd hm)).2 h).eq_of_pairwise (fun _ _ _ _ h1 h2 => absurd h2 (lt_asym h1)) hl hm
theorem mem_keys {L : List Ent} {k : ByteArray} : k ∈ keysE L ↔ getE L k ≠ none := by
  unfold keysE
  rw [List.mem_map]
  constructor
  · rintro ⟨e, he, rfl⟩ h
    exact get_none.1 h e he rfl
  · intro h
    by_cases h2 : ∃ e ∈ L, e.1 = k
    · exact h2
    · exact absurd (get_none.2 fun e he hk => h2 ⟨e, he, hk⟩) h
def mrgK : List ByteArray → List ByteArray → List ByteArray
  | [], ys => ys
  | a :: xs, [] => a :: xs
  | a :: xs, b :: ys => if kb b < kb a then b :: mrgK (a :: xs) ys else if a = b then b :: mrgK xs ys else a :: mrgK xs (b :: ys)
termination_by xs ys => xs.length + ys.length
theorem mrg_nil (ys : List ByteArray) : mrgK [] ys = ys := by rw [mrgK]
theorem mrg_none (xs : List ByteArray) : mrgK xs [] = xs := by cases xs <;> rw [mrgK]
theorem mrg_lo {a b : ByteArray} (xs ys : List ByteArray) (h : kb b < kb a) : mrgK (a :: xs) (b :: ys) = b :: mrgK (a :: xs) ys := by rw [mrgK, if_pos h]
theorem mrg_eq {a b : ByteArray} (xs ys : List ByteArray) (h : a = b) : mrgK (a :: xs) (b :: ys) = b :: mrgK xs ys := by
  subst h
  rw [mrgK, if_neg (lt_irrefl_l _), if_pos rfl]
theorem mrg_hi {a b : ByteArray} (xs ys : List ByteArray) (h : kb a < kb b) : mrgK (a :: xs) (b :: ys) = a :: mrgK xs (b :: ys) := by rw [mrgK, if_neg (lt_asym h), if_neg (lt_ne h)]
theorem mem_mrg (k : ByteArray) : ∀ (n : Nat) (xs ys : List ByteArray), xs.length + ys.length ≤ n → (k ∈ mrgK xs ys ↔ k ∈ xs ∨ k ∈ ys) := by
  intro n
  induction n with
  | zero =>
    intro xs ys h
    obtain rfl := List.eq_nil_of_length_eq_zero (by omega : xs.length = 0)
    rw [mrg_nil]; simp
  | succ n ih =>
    intro xs ys h
    cases xs with
    | nil => rw [mrg_nil]; simp
    | cons a xs =>
      cases ys with
      | nil => rw [mrg_none]; simp
      | cons b ys =>
        rw [List.length_cons, List.length_cons] at h
        rcases tri b a with h1 | rfl | h1
        · rw [mrg_lo _ _ h1, List.mem_cons, ih _ _ (by rw [List.length_cons]; omega), List.mem_cons (a := k) (b := b)]
          exact or_left_comm
        · rw [mrg_eq _ _ rfl, List.mem_cons, ih _ _ (by omega), List.mem_cons, List.mem_cons]
          exact ⟨fun h => h.elim (fun h => .inl (.inl h)) fun h => h.elim (fun h => .inl (.inr h)) fun h => .inr (.inr h), fun h => h.elim (fun h => h.elim .inl fun h => .inr (.inl h)) fun h => h.elim .inl fun h => .inr (.inr h)⟩
        · rw [mrg_hi _ _ h1, List.mem_cons, ih _ _ (by rw [List.length_cons]; omega), List.mem_cons (a := k) (b := a)]
          exact or_assoc.symm
theorem mrg_rise : ∀ (n : Nat) (xs ys : List ByteArray), xs.length + ys.length ≤ n → RiseK xs → RiseK ys → RiseK (mrgK xs ys) := by
  intro n
  induction n with
  | zero =>
    intro xs ys h _ h2
    obtain rfl := List.eq_nil_of_length_eq_zero (by omega : xs.length = 0)
    rw [mrg_nil]; exact h2
  | succ n ih =>
    intro xs ys h hA hB
    cases xs with
    | nil => rw [mrg_nil]; exact hB
    | cons a xs =>
      cases ys with
      | nil => rw [mrg_none]; exact hA
      | cons b ys =>
        rw [List.length_cons, List.length_cons] at h
        have hA' := List.pairwise_cons.1 hA
        have hB' := List.pairwise_cons.1 hB
        rcases tri b a with h1 | rfl | h1
        · rw [mrg_lo _ _ h1]
          refine List.pairwise_cons.2 ⟨fun k hk => ?_, ih _ _ (by rw [List.length_cons]; omega) hA hB'.2⟩
          rcases (mem_mrg k _ _ _ (Nat.le_refl _)).1 hk with hk | hk
          · rcases List.mem_cons.1 hk with rfl | hk
            · exact h1
            · exact List.lt_trans h1 (hA'.1 k hk)
          · exact hB'.1 k hk
        · rw [mrg_eq _ _ rfl]
          refine List.pairwise_cons.2 ⟨fun k hk => ?_, ih _ _ (by omega) hA'.2 hB'.2⟩
          rcases (mem_mrg k _ _ _ (Nat.le_refl _)).1 hk with hk | hk
          · exact hA'.1 k hk
          · exact hB'.1 k hk
        · rw [mrg_hi _ _ h1]
          refine List.pairwise_cons.2 ⟨fun k hk => ?_, ih _ _ (by rw [List.length_cons]; omega) hA'.2 hB⟩
          rcases (mem_mrg k _ _ _ (Nat.le_refl _)).1 hk with hk | hk
          · exact hA'.1 k hk
          · rcases List.mem_cons.1 hk with rfl | hk
            · exact h1
            · exact List.lt_trans h1 (hB'.1 k hk)
/-- The keys of both. -/
theorem mrg_uni {A B : List Ent} (hA : Rise A) (hB : Rise B) : mrgK (keysE A) (keysE B) = keysE (uniE A B) :=
  riseK_ext (mrg_rise _ _ _ (Nat.le_refl _) hA.keys hB.keys) (uni_rise hB A).keys fun k => by
    rw [mem_mrg k _ _ _ (Nat.le_refl _), mem_keys, mem_keys, mem_keys, get_uni hA hB]
    cases getE A k with
    | some x => simp
    | none => simp

/-! what comes of changes -/
theorem get_app {L : List Ent} (h : Rise L) (c : Chg) (k : ByteArray) : getE (appC L c) k = if c.1 = k then (if c.2.2.1 = true then some c.2.2.2.2 else none) else getE L k := by
  unfold appC
  by_cases hk : c.1 = k
  · subst hk
    rw [if_pos rfl]
    split
    · exact get_ins_same L _ _ h
    · exact get_del_same L _
  · rw [if_neg hk]
    split
    · exact get_ins_other h _ (fun e => hk e.symm)
    · exact get_del_other (fun e => hk e.symm)
theorem get_apps_none {k : ByteArray} : ∀ {l : List Chg} {L : List Ent}, Rise L → (∀ c ∈ l, c.1 ≠ k) → getE (appsE L l) k = getE L k
  | [], _, _, _ => rfl
  | c :: l, L, h, hk => by
    show getE (appsE (appC L c) l) k = _
    rw [get_apps_none (appC_rise h c) fun d hd => hk d (List.mem_cons_of_mem _ hd), get_app h, if_neg (hk c List.mem_cons_self)]
theorem get_apps_some {k : ByteArray} {c : Chg} : ∀ {l : List Chg} {L : List Ent}, Rise L → c ∈ l → c.1 = k → (∀ d ∈ l, d.1 = k → d = c) → getE (appsE L l) k = if c.2.2.1 = true then some c.2.2.2.2 else none
  | [], _, _, hc, _, _ => by cases hc
  | d :: l, L, h, hc, hk, hu => by
    show getE (appsE (appC L d) l) k = _
    by_cases hin : c ∈ l
    · exact get_apps_some (appC_rise h d) hin hk fun e he => hu e (List.mem_cons_of_mem _ he)
    · have hdc : d = c := by
        rcases List.mem_cons.1 hc with h | h
        · exact h.symm
        · exact absurd h hin
      subst hdc
      rw [get_apps_none (appC_rise h d) fun e he hek => hin (hu e (List.mem_cons_of_mem _ he) hek ▸ he), get_app h, if_pos hk]
/-- Changes lead there. -/
theorem apps_dif {A B : List Ent} (hA : Rise A) (hB : Rise B) (al : Int → Int → Bool) (hal : ∀ x y, al x y = true → x = y) : appsE A (difE al A B) = B := by
  refine rise_get (apps_rise hA _) hB fun k => ?_
  by_cases hin : k ∈ keysE (uniE A B) ∧ isChg al (chgE A B k) = true
  · have hm : chgE A B k ∈ difE al A B := List.mem_filter.2 ⟨List.mem_map.2 ⟨k, hin.1, rfl⟩, hin.2⟩
    rw [get_apps_some (k := k) hA hm rfl fun d hd hk => by rw [(chgs_key hd).2.1, hk]]
    show (if (getE B k).isSome = true then some ((getE B k).getD 0) else none) = getE B k
    cases getE B k <;> simp
  · rw [get_apps_none hA fun c hc hk => hin (by
      obtain ⟨h1, h2, h3⟩ := chgs_key hc
      rw [← hk]
      exact ⟨h1, by rw [← h2]; exact h3⟩)]
    by_cases hk : k ∈ keysE (uniE A B)
    · have h := fun h => hin ⟨hk, h⟩
      unfold isChg chgE at h
      simp only at h
      cases ha : getE A k with
      | none => rw [ha] at h; simp at h
      | some x =>
        cases hb : getE B k with
        | none => rw [ha, hb] at h; simp at h
        | some y =>
          rw [ha, hb] at h
          simp at h
          rw [hal x y h]
    · have h1 : getE (uniE A B) k = none := Classical.byContradiction fun h => hk (mem_keys.2 h)
      rw [get_uni hA hB] at h1
      cases ha : getE A k with
      | none => rw [ha] at h1; exact h1.symm
      | some x => rw [ha] at h1; cases h1
theorem uni_keys_comm {A B : List Ent} (hA : Rise A) (hB : Rise B) : keysE (uniE A B) = keysE (uniE B A) :=
  riseK_ext (uni_rise hB A).keys (uni_rise hA B).keys fun k => by
    rw [mem_keys, mem_keys, get_uni hA hB, get_uni hB hA]
    cases getE A k <;> cases getE B k <;> simp
/-- .. and back. -/
theorem turn_dif {A B : List Ent} (hA : Rise A) (hB : Rise B) (al : Int → Int → Bool) (hal : ∀ x y, al x y = al y x) : (difE al A B).map turnC = difE al B A := by
  unfold difE
  rw [uni_keys_comm hA hB]
  unfold chgsE
  have e : ∀ ks : List ByteArray, ((ks.map (chgE A B)).filter (isChg al)).map turnC = (ks.map (chgE B A)).filter (isChg al) := by
    intro ks
    induction ks with
    | nil => rfl
    | cons k ks ih =>
      have h1 : isChg al (chgE A B k) = isChg al (chgE B A k) := by
        unfold isChg chgE
        simp only
        rw [hal, Bool.and_comm (getE A k).isSome]
      rw [List.map_cons, List.map_cons]
      by_cases h : isChg al (chgE B A k) = true
      · rw [List.filter_cons_of_pos (by rw [h1]; exact h), List.filter_cons_of_pos h, List.map_cons, ih]
        rfl
      · rw [List.filter_cons_of_neg (by rw [h1]; exact h), List.filter_cons_of_neg h, ih]
  exact e _
theorem dif_self {A : List Ent} (hA : Rise A) (al : Int → Int → Bool) (hal : ∀ x, al x x = true) : difE al A A = [] := by
  unfold difE chgsE
  rw [List.filter_eq_nil_iff]
  intro c hc
  obtain ⟨k, hk, rfl⟩ := List.mem_map.1 hc
  have h1 := mem_keys.1 hk
  rw [get_uni hA hA] at h1
  cases ha : getE A k with
  | none => rw [ha] at h1; simp at h1
  | some x => simp [isChg, chgE, ha, hal]

/-! parts -/
def hasE (B : List Ent) (e : Ent) : Bool := (getE B e.1).isSome
theorem len_parts (L : List Ent) (p : Ent → Bool) : (L.filter p).length + (L.filter fun e => !p e).length = L.length := by
  induction L with
  | nil => rfl
  | cons e L ih =>
    cases hp : p e with
    | true => rw [List.filter_cons_of_pos hp, List.filter_cons_of_neg (by simp [hp]), List.length_cons, List.length_cons]; omega
    | false => rw [List.filter_cons_of_neg (by simp [hp]), List.filter_cons_of_pos (by simp [hp]), List.length_cons, List.length_cons]; omega
theorem uni_parts {L : List Ent} (h : Rise L) (p : Ent → Bool) : uniE (L.filter p) (L.filter fun e => !p e) = L :=
  rise_ext (uni_rise (h.filter _) _) h fun e => by
    rw [mem_uni (h.filter _), List.mem_filter, List.mem_filter]
    constructor
    · rintro (⟨h1, _⟩ | ⟨⟨h1, _⟩, _⟩) <;> exact h1
    · intro he
      cases hp : p e with
      | true => exact .inl ⟨he, rfl⟩
      | false =>
        refine .inr ⟨⟨he, by simp⟩, get_none.2 fun a ha hk => ?_⟩
        obtain ⟨h1, h2⟩ := List.mem_filter.1 ha
        have := h.inj h1 he hk
        rw [this, hp] at h2
        cases h2
theorem len_uni {A B : List Ent} (hA : Rise A) (hB : Rise B) : (uniE A B).length = (A.filter fun e => !hasE B e).length + B.length := by
  have hp : (keysE (uniE A B)).Perm (keysE (A.filter fun e => !hasE B e) ++ keysE B) := by
    have nd : ∀ {l : List ByteArray}, RiseK l → l.Nodup := fun h => List.Pairwise.imp (fun hab e => lt_ne hab e) h
    refine (List.perm_ext_iff_of_nodup (nd (uni_rise hB A).keys) (List.nodup_append.2 ⟨nd (hA.filter _).keys, nd hB.keys, ?_⟩)).2 fun k => ?_
    · intro a ha b hb e
      subst e
      unfold keysE at ha
      obtain ⟨e, he, rfl⟩ := List.mem_map.1 ha
      have h2 := (List.mem_filter.1 he).2
      have h3 := mem_keys.1 hb
      unfold hasE at h2
      cases hg : getE B e.1 with
      | none => exact h3 hg
      | some x => rw [hg] at h2; simp at h2
    · rw [List.mem_append, mem_keys, mem_keys (L := B), get_uni hA hB]
      constructor
      · intro h
        cases hb : getE B k with
        | some y => exact .inr (by simp)
        | none =>
          left
          cases ha : getE A k with
          | none => rw [ha] at h; exact absurd hb h
          | some x =>
            exact List.mem_map.2 ⟨(k, x), List.mem_filter.2 ⟨(get_mem hA).1 ha, by simp [hasE, hb]⟩, rfl⟩
      · rintro (h | h)
        · obtain ⟨e, he, rfl⟩ := List.mem_map.1 h
          rw [(get_mem hA).2 (List.mem_filter.1 he).1]
          simp
        · cases getE A k with
          | some x => simp
          | none => exact h
  have h := hp.length_eq
  rw [List.length_append, keysE_len, keysE_len, keysE_len] at h
  exact h
theorem less_all {A B : List Ent} (hA : Rise A) (hB : Rise B) : (A.filter fun e => !hasE (uniE A B) e) = [] := by
  rw [List.filter_eq_nil_iff]
  intro e he
  have : getE A e.1 = some e.2 := (get_mem hA).2 he
  simp [hasE, get_uni hA hB, this]
end Go.Proofs.YtnnlfgfgfegjkaaDoor
