import Derived.Test.YtpodmgihlomglaaGreatDoorQ37
namespace Go.Proofs.YtpodmgihlomglaaGreatDoor
open Go.RowKit
set_option maxRecDepth 1000000
set_option linter.unusedSimpArgs false
theorem map_putN {α β : Type} (h : α → β) (n : Nat) (l : List α) (x : α) : (putN n l x).map h = putN n (l.map h) (h x) := by
 unfold putN
 rw [List.map_append, List.map_cons, List.map_take, List.map_drop]
theorem putB_place (xs : List Tr) (x : Tr) : putB keyT xs x = putN (placeK (xs.map kB) (kB x)) xs x := by
 have e : placeK (xs.map kB) (kB x) = (xs.takeWhile fun y => decide (keyT y < keyT x)).length := by
  unfold placeK
  induction xs with
  | nil => rfl
  | cons a l ih =>
   rw [List.map_cons, List.takeWhile_cons, List.takeWhile_cons, kb_kB, kb_kB]
   by_cases h : keyT a < keyT x
   ·rw [if_pos (by simpa using h), if_pos (by simpa using h), List.length_cons, List.length_cons]
    simp only [kb_kB] at ih
    rw [← ih]
   ·rw [if_neg (by simpa using h), if_neg (by simpa using h)]
    rfl
 unfold putB putN
 rw [e, tw_take, tw_drop]
set_option maxHeartbeats 8000000 in
theorem va_Add {S : Nat → Prop} (w : World) (a : Tr) (xa : Cel) (ha : ValB a) (hva : VAt S w a xa) (yt : Tr) (cy : Cel) (hyb : ValB yt) (hvy : VAt S w yt cy) (hT : Tab6 w) :
  Calls Tryz.prog 36 #[.agg (celC xa), .agg (celC cy)] w fun r w' => ∃ y, r = .returned (.tuple #[.agg (celC y), .int .i64 (addT a yt).2]) ∧ VAt (fun g => S g ∨ w.heap.size ≤ g) w' (addT a yt).1 y ∧ Below w.heap.size w w' := by
 obtain ⟨w1, hw1⟩ : ∃ w1, ((w.alloc (.cells (celC xa) 35)).alloc (.cells (celC cy) 35)).alloc (.cells #[.int .i64 0, .int .i64 0, .string ⟨#[]⟩, .pointer none] 35) = w1 := ⟨_, rfl⟩
 obtain ⟨hb1, hx1, hy1, hr1, hs1⟩ := three_newV hw1
 have HX1 := Lib.hid hx1
 have HY1 := Lib.hid hy1
 have HR1 := Lib.hid hr1
 have HB1 := Lib.hid hb1
 have HS1 := Lib.hid hs1
 have HKA := Lib.hid (fun W => va_Kind W xa)
 rw [hva.k] at HKA
 by_cases h6 : a.k = 6
 ·rw [h6] at HKA
  obtain ⟨ba, la, hpa, hSa, hla, rca, mca, da0, fra, sda, nna, hba, hsda, hra, hma, hda⟩ := hva.old.parts (by omega)
  have hza : rca.size = 4 ∧ mca.size = 6 := ⟨hra.size, hma.size⟩
  have cpa : w1.cell? ⟨w.heap.size, 3, none⟩ = some (.pointer (some ⟨ba, 0, none⟩)) := cell_in hx1 (by rw [← hpa]; rfl)
  have hba1 := (hb1.block _ (Array.getElem?_eq_some_iff.1 hba).1).trans hba
  have HCI := Lib.hid (And.intro cpa (innC_tal hza.1 hza.2 hba1))
  have hal := vAtL_len hla
  have hle := ha.len
  have ht1 := tal_le ha
  have hn1 := ha.nodL
  have hdy := hyb.dep
  have hny := hyb.nod
  have hku := hyb.kB
  have HTY := Lib.hid (fun W (hb : Below w1.heap.size w1 W) => va_tallyOf W yt cy hyb (hvy.later (hb1.trans (hb.mono hb1.size))))
  have HKEY := Lib.hid (fun W (hb : Below w1.heap.size w1 W) => va_Key W yt cy hyb ((hvy.later (hb1.trans (hb.mono hb1.size))).weak fun _ _ => trivial) (hT.below (hb1.trans (hb.mono hb1.size))))
  have HATT := Lib.hid (fun W (hb : Below w.heap.size w W) => va_at W a xa ba ha (hva.old.later hb) hpa 2 0 (kB yt) (by unfold fitT; rw [if_neg (by decide), if_neg (by decide), if_pos rfl, if_pos h6]) (by omega))
  have HVA := Lib.hid (fun W (hb : Below w.heap.size w W) => hva.later hb)
  cases hat : atT a 0 (kB yt) with
  | some j =>
   rw [hat] at HATT
   have e : addT a yt = (a, 0) := by unfold addT; rw [if_neg (by omega), show (⟨(keyT yt).toArray⟩ : ByteArray) = kB yt from rfl, hat]
   rw [e]
   clear hx1 hy1 hr1 hs1 hb1 ha hva hyb hvy h6 e hSa hla hba hra hma hda hba1 hal hle ht1 hn1 hdy hny hpa hsda cpa hza hat hT hku HTY
   go_enter Tryz.func36, Tryz.ntmps36
   go_upto_region 1 with fail
   clear hw1
   go_upto_region 4 with (first
     | (refine ld_if rfl 35 _ rfl w.heap.size rfl 35 _ _ _ HX1.out Tryz.underlying35 rfl val_size ?_)
     | (go_at_call 37; (with_reducible refine (HKA.out _).mono ?_); rintro r w2 ⟨rfl, hb2⟩; have HB2 := Lib.hid hb2; have HX2 := Lib.hid ((hb2.block _ (Array.getElem?_eq_some_iff.1 HX1.out).1).trans HX1.out); have HY2 := Lib.hid ((hb2.block _ (Array.getElem?_eq_some_iff.1 HY1.out).1).trans HY1.out); have HR2 := Lib.hid ((hb2.block _ (Array.getElem?_eq_some_iff.1 HR1.out).1).trans HR1.out); clear hb2)
     | (refine ld_if rfl 35 _ rfl (w.heap.size + 1) rfl 35 _ _ _ HY2.out Tryz.underlying35 rfl val_size ?_)
     | (go_at_call 28; (with_reducible refine (HKEY.out _ HB2.out).mono ?_); rintro r w3 ⟨rfl, hb3⟩; have HB3 := Lib.hid (HB2.out.trans (hb3.mono HB2.out.size)); have HX3 := Lib.hid ((hb3.block _ (Array.getElem?_eq_some_iff.1 HX2.out).1).trans HX2.out); have HY3 := Lib.hid ((hb3.block _ (Array.getElem?_eq_some_iff.1 HY2.out).1).trans HY2.out); have HR3 := Lib.hid ((hb3.block _ (Array.getElem?_eq_some_iff.1 HR2.out).1).trans HR2.out); clear hb3)
     | (refine st_agg rfl 44 _ _ rfl w3.heap.size #[.int .i64 2, .int .i64 0, .string (kB yt)] rfl rfl 44 _ (heap_alloc_last _ _) step_size rfl (by simp [Value.oneCell']) ?_; intro w4 h4' k4))
   have hB4 := (Below.newly' w3 (.cells #[.int .i64 0, .int .i64 0, .string ⟨#[]⟩] 44)).trans (k4.below (Nat.le_refl _))
   have HB4 := Lib.hid (HB3.out.trans (hB4.mono HB3.out.size))
   have HX4 := Lib.hid ((hB4.block _ (Array.getElem?_eq_some_iff.1 HX3.out).1).trans HX3.out)
   have HY4 := Lib.hid ((hB4.block _ (Array.getElem?_eq_some_iff.1 HY3.out).1).trans HY3.out)
   have HR4 := Lib.hid ((hB4.block _ (Array.getElem?_eq_some_iff.1 HR3.out).1).trans HR3.out)
   obtain ⟨P, hP⟩ : ∃ P, P = w3.heap.size := ⟨_, rfl⟩
   have HGP : Hid (w1.heap.size ≤ P) := by show _ ≤ _; rw [hP]; exact HB3.out.size
   rw [← hP] at h4' ⊢
   have HP4 := Lib.hid h4'
   have cp4 : w4.cell? ⟨w.heap.size, 3, none⟩ = some (.pointer (some ⟨ba, 0, none⟩)) := keep_cell HCI.out.1 HB4.out
   clear h4' k4 hB4 hP HX2 HX3 HY2 HY3 HR2 HR3
   go_wp2_with (first
    | (refine ld_if rfl 44 _ rfl P rfl 44 _ _ _ HP4.out Tryz.underlying44 rfl step_size ?_)
    | (go_at_call 52; (with_reducible refine (HATT.out _ (HB1.out.trans (HB4.out.mono HB1.out.size))).mono ?_); rintro r w5 ⟨xo, rfl, ho, hb5⟩; have HB5 := Lib.hid (HB4.out.trans (hb5.mono HB4.out.size)); have HX5 := Lib.hid ((hb5.block _ (Array.getElem?_eq_some_iff.1 HX4.out).1).trans HX4.out); have HY5 := Lib.hid ((hb5.block _ (Array.getElem?_eq_some_iff.1 HY4.out).1).trans HY4.out); have HR5 := Lib.hid ((hb5.block _ (Array.getElem?_eq_some_iff.1 HR4.out).1).trans HR4.out); have HP5 := Lib.hid ((hb5.block _ (Array.getElem?_eq_some_iff.1 HP4.out).1).trans HP4.out); clear hb5 ho)
    | (refine st_agg rfl 35 _ _ rfl w5.heap.size (celC xo) rfl rfl 35 _ (heap_alloc_last _ _) val_size rfl (celC_one xo) ?_; intro w6 h6 k6; have hB6 := (Below.newly' w5 (.cells #[.int .i64 0, .int .i64 0, .string ⟨#[]⟩, .pointer none] 35)).trans (k6.below (Nat.le_refl _)); have HB6 := Lib.hid (HB5.out.trans (hB6.mono HB5.out.size)); have HX6 := Lib.hid ((hB6.block _ (Array.getElem?_eq_some_iff.1 HX5.out).1).trans HX5.out); have HY6 := Lib.hid ((hB6.block _ (Array.getElem?_eq_some_iff.1 HY5.out).1).trans HY5.out); have HR6 := Lib.hid ((hB6.block _ (Array.getElem?_eq_some_iff.1 HR5.out).1).trans HR5.out); have HP6 := Lib.hid ((hB6.block _ (Array.getElem?_eq_some_iff.1 HP5.out).1).trans HP5.out); clear h6 k6 hB6)
    | (refine ld_if rfl 35 _ rfl w.heap.size rfl 35 _ _ _ HX6.out Tryz.underlying35 rfl val_size ?_)
    | (refine st_agg rfl 35 _ _ rfl (w.heap.size + 2) (celC xa) rfl rfl 35 _ HR6.out val_size rfl (celC_one xa) ?_; intro w7 h7 k7))
   have hs1 := HS1.out
   have hb1 := HB1.out
   exact bodyPost_ret (results_cell_row1 rfl _ _ (w.heap.size + 2) 35 _ (0, 0) _ rfl h7 Tryz.underlying35 rfl val_size) rfl ⟨xa, rfl, ((HVA.out _ ((HB1.out.trans (HB6.out.mono HB1.out.size)).trans (k7.below (by omega)))).weak fun _ h => .inl h), (HB1.out.trans (HB6.out.mono HB1.out.size)).trans (k7.below (by omega))⟩
  | none =>
   rw [hat] at HATT
   obtain ⟨n, hn⟩ : ∃ n, n = placeK (a.xs.map kB) (kB yt) := ⟨_, rfl⟩
   have e : addT a yt = withinT (Tr.nd 6 0 ⟨#[]⟩ [] (putN n a.xs yt)) := by unfold addT; rw [if_neg (by omega), show (⟨(keyT yt).toArray⟩ : ByteArray) = kB yt from rfl, hat, putB_place, ← hn]
   rw [e]
   have hset := put_perm2 n a.xs yt
   have i1 := tal_len (putN n a.xs yt)
   have i2 := nodL_perm hset
   have i3 := depL_perm hset
   rw [nodL_app] at i2
   rw [depL_app] at i3
   simp only [depL, nodL] at i2 i3
   have HPL : Hid (∀ W dt, Below w1.heap.size w1 W → CutAt (fun _ => True) W 1 dt (iv (tal [yt])) (tal [yt]).length → Calls Tryz.prog 69 #[.agg #[da0, .int .i64 (nodL a.xs : Int)], .agg #[dt, .int .i64 ((nodT yt : Nat) : Int)]] W fun r W' => ∃ dn, r = .returned (.agg #[dn, .int .i64 ((nodL (putN n a.xs yt) : Nat) : Int)]) ∧ CutAt (fun g => W.heap.size ≤ g) W' 1 dn (iv (tal (putN n a.xs yt))) (tal (putN n a.xs yt)).length ∧ Below W.heap.size W W') := fun W dt hW hdt => by
    have h := tl_plus (S := fun _ => True) W da0 dt (tal a.xs) (tal [yt]) (nodL a.xs) (nodT yt) ((hda.later (hb1.trans (hW.mono hb1.size))).weak fun _ _ => trivial) hdt (by omega) (by rw [tal_len]; simp only [depL]; omega) (tal_rng ha) (rng_tal (by simp)) (by omega) (by omega)
    rw [plus_tal, show nodL a.xs + nodT yt = nodL (a.xs ++ [yt]) by rw [nodL_app]; simp [nodL], tal_perm hset, nodL_perm hset] at h
    exact h
   rw [tal_len] at ht1
   have HCH1 : ∀ P w4, Below w1.heap.size w1 w4 → w4.heap[P]? = some (.cells #[.int .i64 2, .int .i64 0, .string (kB yt)] 44 (0, 0)) → ∀ W dn, Below w4.heap.size w4 W → CutAt (fun g => w1.heap.size ≤ g) W 1 dn (iv (tal (putN n a.xs yt))) (tal (putN n a.xs yt)).length → Calls Tryz.prog 68 #[.agg (celC xa), .agg #[dn, .int .i64 ((nodL (putN n a.xs yt) : Nat) : Int)], .func (.func 75) #[] #[.pointer (some ⟨P, 0, none⟩), .pointer (some ⟨w.heap.size + 1, 0, none⟩)]] W fun r W' => ∃ y, r = .returned (.tuple #[.agg (celC y), .int .i64 (withinT (Tr.nd 6 0 ⟨#[]⟩ [] (putN n a.xs yt))).2]) ∧ VAt (fun g => ((S g ∧ g < w.heap.size) ∨ w1.heap.size ≤ g) ∨ W.heap.size ≤ g) W' (withinT (Tr.nd 6 0 ⟨#[]⟩ [] (putN n a.xs yt))).1 y ∧ Below W.heap.size W W' := fun P w4 hw4 hP W dn hW hdn => by
    have hbW := hb1.trans ((hw4.trans (hW.mono hw4.size)).mono hb1.size)
    have hyW := ((hw4.trans (hW.mono hw4.size)).block _ (Array.getElem?_eq_some_iff.1 hy1).1).trans hy1
    exact va_changedT (S := (fun g => (S g ∧ g < w.heap.size) ∨ w1.heap.size ≤ g)) W xa ba hpa rca mca da0 (nodL a.xs) fra ((hbW.block _ (Array.getElem?_eq_some_iff.1 hba).1).trans hba) _ ((hra.later hbW).weak fun _ h => .inl h) _ sda nna ((hma.later hbW).weak fun _ h => .inl h) hsda (tal a.xs) ((hda.later hbW).weak fun _ h => .inl h) 75 #[.pointer (some ⟨P, 0, none⟩), .pointer (some ⟨w.heap.size + 1, 0, none⟩)] (enters_of Tryz.func75 (by kernel_rfl) rfl)
     (Tr.nd 6 0 ⟨#[]⟩ [] (putN n a.xs yt)) (by rw [nd_k]; omega) (hva.k.trans h6) ⟨(hva.two ha (by omega)).1, rfl⟩ ⟨(hva.two ha (by omega)).2, rfl⟩ (putN n la cy) (vAtL_put ((hla.later hbW).weak fun _ h => .inl h) _ ((hvy.old.later hbW).weak fun _ h => .inl h))
     (by
      rw [nd_k, nd_ks, nd_xs]
      obtain ⟨k1, k2, _⟩ := ha.mkeys (.inr h6)
      rw [at_idx (.inr h6)] at hat
      have hk : a.k ≠ 4 := by omega
      have hmk : ∀ ks xs, mkeys a.k ks xs = xs.map kB := fun ks xs => by unfold mkeys; rw [if_neg (by omega), if_pos h6]
      have hmk6 : ∀ ks xs, mkeys 6 ks xs = xs.map kB := fun ks xs => by unfold mkeys; rw [if_neg (by omega), if_pos rfl]
      have hM : RiseK (a.xs.map kB) := by rw [hmk] at k2; exact k2
      have hML : (a.xs.map kB).length = la.length := by rw [hmk] at k1; omega
      rw [hmk] at hat
      have hmm : mapE a.k a.ks a.xs la = (a.xs.map kB).zip la := by rw [mapE, hmk]
      rw [item_map (by decide), mapE, hmk6, map_putN, hn, ← ins_zip_put hM hML hat]
      rw [item_map hk] at hra
      rw [hmm] at hma
      exact chg_add_map (S := (fun g => (S g ∧ g < w.heap.size) ∨ w1.heap.size ≤ g)) (w := W) 2 0 (kB yt) (by decide) ((hra.later hbW).weak fun _ h => .inl h) ((hma.later hbW).weak fun _ h => .inl h) hsda (zip_rise hM hML) (by rw [List.length_zip]; omega) (by omega) (hT.below hbW) P (0, 0) ((hW.block _ (Array.getElem?_eq_some_iff.1 hP).1).trans hP) (w.heap.size + 1) cy (0, 0) hyW hza.1 hza.2)
     dn (hdn.weak fun _ h => .inr h) (by rw [nd_xs]; omega) (by rw [nd_xs]; omega)
   obtain ⟨ns, hns⟩ : ∃ ns, ns = putN n a.xs yt := ⟨_, rfl⟩
   obtain ⟨A', hA'⟩ : ∃ t, t = (Tr.nd 6 0 ⟨#[]⟩ [] (putN n a.xs yt)) := ⟨_, rfl⟩
   rw [← hA'] at HCH1 ⊢
   rw [← hns] at HCH1 HPL
   obtain ⟨R1, hR1⟩ : ∃ t, t = (withinT A').1 := ⟨_, rfl⟩
   obtain ⟨R2, hR2⟩ : ∃ t, t = (withinT A').2 := ⟨_, rfl⟩
   rw [← hR1, ← hR2] at HCH1 ⊢
   have HCH0 := Lib.hid HCH1
   clear hA' hns hR1 hR2 HCH1 hx1 hy1 hr1 hs1 hb1 ha hva hyb hvy h6 e hSa hla hba hra hma hda hba1 hal hle ht1 hn1 hdy hny hpa hsda cpa hza hset i1 i2 i3 hat hn hT hku HVA
   go_enter Tryz.func36, Tryz.ntmps36
   go_upto_region 1 with fail
   clear hw1
   go_upto_region 4 with (first
     | (refine ld_if rfl 35 _ rfl w.heap.size rfl 35 _ _ _ HX1.out Tryz.underlying35 rfl val_size ?_)
     | (go_at_call 37; (with_reducible refine (HKA.out _).mono ?_); rintro r w2 ⟨rfl, hb2⟩; have HB2 := Lib.hid hb2; have HX2 := Lib.hid ((hb2.block _ (Array.getElem?_eq_some_iff.1 HX1.out).1).trans HX1.out); have HY2 := Lib.hid ((hb2.block _ (Array.getElem?_eq_some_iff.1 HY1.out).1).trans HY1.out); have HR2 := Lib.hid ((hb2.block _ (Array.getElem?_eq_some_iff.1 HR1.out).1).trans HR1.out); clear hb2)
     | (refine ld_if rfl 35 _ rfl (w.heap.size + 1) rfl 35 _ _ _ HY2.out Tryz.underlying35 rfl val_size ?_)
     | (go_at_call 28; (with_reducible refine (HKEY.out _ HB2.out).mono ?_); rintro r w3 ⟨rfl, hb3⟩; have HB3 := Lib.hid (HB2.out.trans (hb3.mono HB2.out.size)); have HX3 := Lib.hid ((hb3.block _ (Array.getElem?_eq_some_iff.1 HX2.out).1).trans HX2.out); have HY3 := Lib.hid ((hb3.block _ (Array.getElem?_eq_some_iff.1 HY2.out).1).trans HY2.out); have HR3 := Lib.hid ((hb3.block _ (Array.getElem?_eq_some_iff.1 HR2.out).1).trans HR2.out); clear hb3)
     | (refine st_agg rfl 44 _ _ rfl w3.heap.size #[.int .i64 2, .int .i64 0, .string (kB yt)] rfl rfl 44 _ (heap_alloc_last _ _) step_size rfl (by simp [Value.oneCell']) ?_; intro w4 h4' k4))
   have hB4 := (Below.newly' w3 (.cells #[.int .i64 0, .int .i64 0, .string ⟨#[]⟩] 44)).trans (k4.below (Nat.le_refl _))
   have HB4 := Lib.hid (HB3.out.trans (hB4.mono HB3.out.size))
   have HX4 := Lib.hid ((hB4.block _ (Array.getElem?_eq_some_iff.1 HX3.out).1).trans HX3.out)
   have HY4 := Lib.hid ((hB4.block _ (Array.getElem?_eq_some_iff.1 HY3.out).1).trans HY3.out)
   have HR4 := Lib.hid ((hB4.block _ (Array.getElem?_eq_some_iff.1 HR3.out).1).trans HR3.out)
   obtain ⟨P, hP⟩ : ∃ P, P = w3.heap.size := ⟨_, rfl⟩
   have HGP : Hid (w1.heap.size ≤ P) := by show _ ≤ _; rw [hP]; exact HB3.out.size
   rw [← hP] at h4' ⊢
   have HP4 := Lib.hid h4'
   have cp4 : w4.cell? ⟨w.heap.size, 3, none⟩ = some (.pointer (some ⟨ba, 0, none⟩)) := keep_cell HCI.out.1 HB4.out
   clear h4' k4 hB4 hP HX2 HX3 HY2 HY3 HR2 HR3
   go_upto_region 7 with (first
    | (refine ld_if rfl 44 _ rfl P rfl 44 _ _ _ HP4.out Tryz.underlying44 rfl step_size ?_)
    | (go_at_call 52; (with_reducible refine (HATT.out _ (HB1.out.trans (HB4.out.mono HB1.out.size))).mono ?_); rintro r w5 ⟨xo, rfl, ho, hb5⟩; have HB5 := Lib.hid (HB4.out.trans (hb5.mono HB4.out.size)); have HX5 := Lib.hid ((hb5.block _ (Array.getElem?_eq_some_iff.1 HX4.out).1).trans HX4.out); have HY5 := Lib.hid ((hb5.block _ (Array.getElem?_eq_some_iff.1 HY4.out).1).trans HY4.out); have HR5 := Lib.hid ((hb5.block _ (Array.getElem?_eq_some_iff.1 HR4.out).1).trans HR4.out); have HP5 := Lib.hid ((hb5.block _ (Array.getElem?_eq_some_iff.1 HP4.out).1).trans HP4.out); clear hb5 ho)
    | (refine st_agg rfl 35 _ _ rfl w5.heap.size (celC xo) rfl rfl 35 _ (heap_alloc_last _ _) val_size rfl (celC_one xo) ?_; intro w6 h6 k6; have hB6 := (Below.newly' w5 (.cells #[.int .i64 0, .int .i64 0, .string ⟨#[]⟩, .pointer none] 35)).trans (k6.below (Nat.le_refl _)); have HB6 := Lib.hid (HB5.out.trans (hB6.mono HB5.out.size)); have HX6 := Lib.hid ((hB6.block _ (Array.getElem?_eq_some_iff.1 HX5.out).1).trans HX5.out); have HY6 := Lib.hid ((hB6.block _ (Array.getElem?_eq_some_iff.1 HY5.out).1).trans HY5.out); have HR6 := Lib.hid ((hB6.block _ (Array.getElem?_eq_some_iff.1 HR5.out).1).trans HR5.out); have HP6 := Lib.hid ((hB6.block _ (Array.getElem?_eq_some_iff.1 HP5.out).1).trans HP5.out); clear h6 k6 hB6))
   have HLW := HB6
   have HCH := Lib.hid (HCH0.out P w6 HB6.out HP6.out)
   have HC9 : Hid (w6.cell? ⟨w.heap.size, 3, none⟩ = some (.pointer (some ⟨ba, 0, none⟩)) ∧ w6.rangeAt ba 10 [da0, .int .i64 (nodL a.xs : Int)]) := ⟨keep_cell HCI.out.1 HLW.out, keep_range HCI.out.2 HLW.out⟩
   clear HX1 HY1 HR1 HX4 HX5 HY4 HY5 HR4 HR5 HP4 HP5 HP6 HCI HCH0 HATT HKEY HKA HB2 HB3 HB4 HB5 HB6 cp4
   have HKS : Hid (∀ V, Below w6.heap.size w6 V → V.heap[w.heap.size]? = some (.cells (celC xa) 35 (0, 0)) ∧ V.cell? ⟨w.heap.size, 3, none⟩ = some (.pointer (some ⟨ba, 0, none⟩)) ∧ V.rangeAt ba 10 [da0, .int .i64 (nodL a.xs : Int)] ∧ V.heap[w.heap.size + 1]? = some (.cells (celC cy) 35 (0, 0))) := fun V hV => ⟨(hV.block _ (Array.getElem?_eq_some_iff.1 HX6.out).1).trans HX6.out, keep_cell HC9.out.1 hV, keep_range HC9.out.2 hV, (hV.block _ (Array.getElem?_eq_some_iff.1 HY6.out).1).trans HY6.out⟩
   have HW : Hid (Below w6.heap.size w6 w6.drew) := drawn_below w6
   refine wp_region_T (S := (fun V => V.heap[w.heap.size]? = some (.cells (celC xa) 35 (0, 0)) ∧ V.cell? ⟨w.heap.size, 3, none⟩ = some (.pointer (some ⟨ba, 0, none⟩)) ∧ V.rangeAt ba 10 [da0, .int .i64 (nodL a.xs : Int)] ∧ V.heap[w.heap.size + 1]? = some (.cells (celC cy) 35 (0, 0)))) [13, 14] (by kernel_rfl) (by exact HKS.out _ HW.out) (fun hHeld => ?_)
   refine tyL 0 25 (hy := yieldsIf_load_row (by rfl) 35 _ rfl w.heap.size rfl (celC xa) 35 (0, 0) _ (fun w hw => hw.1) Tryz.underlying35 rfl (by exact val_size)) (h := ?_)
   refine tkL 1 26 (h := ?_)
   (try simp only [pq])
   refine tkL 2 27 (h := ?_)
   refine tkL 3 28 (h := ?_)
   (try simp only [pq])
   refine tkL 4 29 (h := ?_)
   refine tyL 5 30 (hy := yieldsIf_arr (by rfl) 107 _ rfl ba 10 rfl #[da0, .int .i64 (nodL a.xs : Int)] _ (fun w hw => hw.2.2.1) Tryz.underlying107 rfl (by exact tally_size)) (h := ?_)
   (try simp only [pq])
   refine tyL 6 31 (hy := yieldsIf_load_row (by rfl) 35 _ rfl (w.heap.size + 1) rfl (celC cy) 35 (0, 0) _ (fun w hw => hw.2.2.2) Tryz.underlying35 rfl (by exact val_size)) (h := ?_)
   refine tkL 9 34 (h := ?_)
   (try simp only [pq])
   refine tkO 7 (some 32) (h := fun K hK => ?_)
   go_simp
   go_at_call 70
   (with_reducible refine (HTY.out _ (by exact HLW.out.trans (HW.out.mono HLW.out.size))).mono ?_)
   rintro r wA ⟨dt, rfl, hd, hb⟩
   have HDT := Lib.hid hd
   replace HW := Lib.hid (HW.out.trans (hb.mono HW.out.size))
   clear hb hd
   dsimp only
   refine hK.out _ _ (by exact HKS.out _ HW.out) (fun hHeld => ?_)
   clear hK K
   (try simp only [pq])
   refine tkO 8 (some 33) (h := fun K hK => ?_)
   go_simp
   go_at_call 69
   (with_reducible refine (HPL.out _ dt (by exact HLW.out.trans (HW.out.mono HLW.out.size)) (by exact HDT.out.weak fun _ _ => trivial)).mono ?_)
   rintro r wB ⟨dn, rfl, hd, hb⟩
   have HDN := Lib.hid hd
   have HSW := Lib.hid HW.out.size
   replace HW := Lib.hid (HW.out.trans (hb.mono HW.out.size))
   clear hb hd
   dsimp only
   refine hK.out _ _ (by exact HKS.out _ HW.out) (fun hHeld => ?_)
   clear hK K
   (try simp only [pq])
   refine tkO 10 (some 35) (h := fun K hK => ?_)
   have HWC : Hid (w1.heap.size ≤ wB.heap.size) := Nat.le_trans HLW.out.size HW.out.size
   go_simp
   go_at_call 68
   (with_reducible refine (HCH.out _ dn (by exact HW.out) (by exact HDN.out.weak fun g hg => Nat.le_trans (Nat.le_trans HLW.out.size HSW.out) hg)).mono ?_)
   rintro r wC ⟨y, rfl, hy, hb⟩
   have HYY := Lib.hid hy
   replace HW := Lib.hid (HW.out.trans (hb.mono HW.out.size))
   clear hb hy
   dsimp only
   refine hK.out _ _ (by exact HKS.out _ HW.out) (fun hHeld => ?_)
   clear hK K
   (try simp only [pq])
   refine tkL 11 36 (h := ?_)
   refine tkL 12 37 (h := ?_)
   (try simp only [pq])
   refine tkU 13 none (h := fun K hK => ?_)
   refine st_agg_wp 35 _ _ rfl (w.heap.size + 2) (celC y) rfl rfl 35 _ ((HW.out.block _ (by exact (Array.getElem?_eq_some_iff.1 HR6.out).1)).trans HR6.out) val_size rfl (celC_one y) ?_
   intro w8 h8 k8
   refine hK.out _ _ ?_
   clear hK K
   (try simp only [pq])
   refine tkU 14 (some 5) (h := fun K hK => ?_)
   go_simp
   refine hK.out _ _ ?_
   clear hK K
   (try simp only [pq])
   refine wpAnyT_done (by kernel_rfl) ?_ _
   clear hHeld
   go_wp2_with fail
   have hs1 := HS1.out
   have hl := HLW.out.size
   have hw5 := HW.out.size
   refine bodyPost_ret (results_cell_row1 rfl _ _ (w.heap.size + 2) 35 _ (0, 0) _ rfl h8 Tryz.underlying35 rfl val_size) rfl ⟨y, rfl, (HYY.out.imp (Kq.only k8 ?_) ?_), (HB1.out.trans ((HLW.out.trans (HW.out.mono HLW.out.size)).mono HB1.out.size)).trans (k8.below (by omega))⟩
   ·exact fun h => by have := HWC.out; rcases h with (h | h) | h <;> omega
   ·exact fun g h _ => by have := HWC.out; rcases h with (h | h) | h <;> first | exact .inl h.1 | exact .inr (by omega)
 ·have e : addT a yt = (nullT, 3) := by unfold addT; rw [if_pos h6]
  rw [e]
  clear hx1 hy1 hr1 hs1 hb1 ha hva hyb hvy e hT
  go_enter Tryz.func36, Tryz.ntmps36
  go_upto_region 1 with fail
  clear hw1
  go_wp2_with (first
   | (refine ld_if rfl 35 _ rfl w.heap.size rfl 35 _ _ _ HX1.out Tryz.underlying35 rfl val_size ?_)
   | (go_at_call 37; (with_reducible refine (HKA.out _).mono ?_); rintro r w2 ⟨rfl, hb2⟩; have HB2 := Lib.hid hb2; have HX2 := Lib.hid ((hb2.block _ (Array.getElem?_eq_some_iff.1 HX1.out).1).trans HX1.out); have HY2 := Lib.hid ((hb2.block _ (Array.getElem?_eq_some_iff.1 HY1.out).1).trans HY1.out); have HR2 := Lib.hid ((hb2.block _ (Array.getElem?_eq_some_iff.1 HR1.out).1).trans HR1.out); clear hb2)
   | (refine st_agg rfl 35 _ _ rfl (w.heap.size + 2) #[.int .i64 0, .int .i64 0, .string ⟨#[]⟩, .pointer none] rfl rfl 35 _ HR2.out val_size rfl (by simp [Value.oneCell']) ?_; intro w5 h5 k5))
  exact bodyPost_ret (results_cell_row1 rfl _ _ (w.heap.size + 2) 35 _ (0, 0) _ rfl h5 Tryz.underlying35 rfl val_size) rfl ⟨zeroV, rfl, vAt_null _ _, (HB1.out.trans (HB2.out.mono HB1.out.size)).trans (k5.below (by omega))⟩
theorem set_perm {α : Type} {l : List α} {j : Nat} (h : j < l.length) (y : α) : (l.eraseIdx j ++ [y]).Perm (l.set j y) := by
 rw [List.eraseIdx_eq_take_drop_succ, List.set_eq_take_append_cons_drop, if_pos h]
 refine List.perm_append_comm.trans ?_
 rw [List.singleton_append]
 exact List.perm_middle.symm
theorem vAtL_set {S : Nat → Prop} {W : World} {xs : List Tr} {l : List Cel} (h : VAtL S W xs l) (j : Nat) {y : Tr} {c : Cel} (hy : VAt S W y c) : VAtL S W (xs.set j y) (l.set j c) := by
 have hl := vAtL_len h
 refine vAtL_of (by rw [List.length_set, List.length_set, hl]) fun k hk hk2 => ?_
 rw [List.length_set] at hk hk2
 rw [List.getElem_set, List.getElem_set]
 split
 ·exact hy
 ·exact vAtL_at h hk hk2
set_option maxHeartbeats 8000000 in
theorem va_Set {S : Nat → Prop} (w : World) (a : Tr) (xa : Cel) (ha : ValB a) (hva : VAt S w a xa) (s i : Int) (u : ByteArray) (hu : u.size ≤ 9223372036854775800) (yt : Tr) (cy : Cel) (hyb : ValB yt) (hvy : VAt S w yt cy) (hT : Tab6 w) :
  Calls Tryz.prog 35 #[.agg (celC xa), .agg #[.int .i64 s, .int .i64 i, .string u], .agg (celC cy)] w fun r w' => ∃ y, r = .returned (.tuple #[.agg (celC y), .int .i64 (setT a s i u yt).2]) ∧ VAt (fun g => S g ∨ w.heap.size ≤ g) w' (setT a s i u yt).1 y ∧ Below w.heap.size w w' := by
 obtain ⟨w0, hw0⟩ : ∃ w0, ((w.alloc (.cells (celC xa) 35)).alloc (.cells #[.int .i64 s, .int .i64 i, .string u] 44)).alloc (.cells (celC cy) 35) = w0 := ⟨_, rfl⟩
 obtain ⟨hb0, hx0, hy0, hz0, hs0⟩ := three_newV hw0
 obtain ⟨w1, hw1⟩ : ∃ w1, w0.alloc (.cells #[.int .i64 0, .int .i64 0, .string ⟨#[]⟩, .pointer none] 35) = w1 := ⟨_, rfl⟩
 obtain ⟨hb01, hr1, hs1⟩ := new_below hw1
 have hb1 := hb0.trans (hb01.mono hb0.size)
 have hx1 := (hb01.block _ (Array.getElem?_eq_some_iff.1 hx0).1).trans hx0
 have hy1 := (hb01.block _ (Array.getElem?_eq_some_iff.1 hy0).1).trans hy0
 have hz1 := (hb01.block _ (Array.getElem?_eq_some_iff.1 hz0).1).trans hz0
 rw [hs0] at hr1 hs1
 have HX1 := Lib.hid hx1
 have HY1 := Lib.hid hy1
 have HZ1 := Lib.hid hz1
 have HR1 := Lib.hid hr1
 have HB1 := Lib.hid hb1
 have HS1 := Lib.hid hs1
 have HBE := Lib.hid (va_bears w1 xa s i u)
 rw [hva.k, bears_fit] at HBE
 have HKA := Lib.hid (fun W => va_Kind W xa)
 rw [hva.k] at HKA
 rw [← hw0] at hw1
 clear hw0 hb0 hx0 hy0 hz0 hs0 hb01
 by_cases hf : fitT a.k s = 0
 ·rw [hf] at HBE
  by_cases h6 : a.k = 6
  ·have e : setT a s i u yt = (nullT, 12) := by unfold setT; rw [if_neg (by simpa using hf), if_pos h6]
   rw [e]
   rw [h6] at HKA
   clear hx1 hy1 hz1 hr1 hs1 hb1 ha hva hyb hvy hf h6 e hT hu
   go_enter Tryz.func35, Tryz.ntmps35
   go_upto_region 1 with fail
   clear hw1
   go_wp2_with (first
    | (refine ld_if rfl 35 _ rfl w.heap.size rfl 35 _ _ _ HX1.out Tryz.underlying35 rfl val_size ?_)
    | (refine ld_if rfl 44 _ rfl (w.heap.size + 1) rfl 44 _ _ _ HY1.out Tryz.underlying44 rfl step_size ?_)
    | (go_at_call 51; (with_reducible refine HBE.out.mono ?_); rintro r w2 ⟨rfl, hb2⟩; have HB2 := Lib.hid hb2; have HX2 := Lib.hid ((hb2.block _ (Array.getElem?_eq_some_iff.1 HX1.out).1).trans HX1.out); have HY2 := Lib.hid ((hb2.block _ (Array.getElem?_eq_some_iff.1 HY1.out).1).trans HY1.out); have HZ2 := Lib.hid ((hb2.block _ (Array.getElem?_eq_some_iff.1 HZ1.out).1).trans HZ1.out); have HR2 := Lib.hid ((hb2.block _ (Array.getElem?_eq_some_iff.1 HR1.out).1).trans HR1.out); clear hb2)
    | (refine ld_if rfl 35 _ rfl w.heap.size rfl 35 _ _ _ HX2.out Tryz.underlying35 rfl val_size ?_)
    | (go_at_call 37; (with_reducible refine (HKA.out _).mono ?_); rintro r w3 ⟨rfl, hb3⟩; have HB3 := Lib.hid (HB2.out.trans (hb3.mono HB2.out.size)); have HX3 := Lib.hid ((hb3.block _ (Array.getElem?_eq_some_iff.1 HX2.out).1).trans HX2.out); have HY3 := Lib.hid ((hb3.block _ (Array.getElem?_eq_some_iff.1 HY2.out).1).trans HY2.out); have HZ3 := Lib.hid ((hb3.block _ (Array.getElem?_eq_some_iff.1 HZ2.out).1).trans HZ2.out); have HR3 := Lib.hid ((hb3.block _ (Array.getElem?_eq_some_iff.1 HR2.out).1).trans HR2.out); clear hb3)
    | (refine st_agg rfl 35 _ _ rfl (w.heap.size + 3) #[.int .i64 0, .int .i64 0, .string ⟨#[]⟩, .pointer none] rfl rfl 35 _ HR3.out val_size rfl (by simp [Value.oneCell']) ?_; intro w5 h5 k5))
   exact bodyPost_ret (results_cell_row1 rfl _ _ (w.heap.size + 3) 35 _ (0, 0) _ rfl h5 Tryz.underlying35 rfl val_size) rfl ⟨zeroV, rfl, vAt_null _ _, (HB1.out.trans (HB3.out.mono HB1.out.size)).trans (k5.below (by omega))⟩
  have h4 : 4 ≤ a.k := by rcases fit_kind hf with ⟨_, h⟩ | ⟨_, h⟩ | ⟨_, h⟩ <;> omega
  obtain ⟨ba, la, hpa, hSa, hla, rca, mca, da0, fra, sda, nna, hba, hsda, hra, hma, hda⟩ := hva.old.parts h4
  have hza : rca.size = 4 ∧ mca.size = 6 := ⟨hra.size, hma.size⟩
  have cpa : w1.cell? ⟨w.heap.size, 3, none⟩ = some (.pointer (some ⟨ba, 0, none⟩)) := cell_in hx1 (by rw [← hpa]; rfl)
  have hba1 := (hb1.block _ (Array.getElem?_eq_some_iff.1 hba).1).trans hba
  have HCI := Lib.hid (And.intro cpa (innC_tal hza.1 hza.2 hba1))
  have hal := vAtL_len hla
  have hle := ha.len
  have ht1 := tal_le ha
  have hn1 := ha.nodL
  have hdy := hyb.dep
  have hny := hyb.nod
  have HC1 : Hid (#[da0, .int .i64 (nodL a.xs : Int)].all (·.oneCell') = true) := by obtain ⟨_, _, rfl, _⟩ := hda.shape; show _ = true; simp [Value.oneCell']
  have HATT := Lib.hid (fun W (hb : Below w.heap.size w W) => va_at W a xa ba ha (hva.old.later hb) hpa s i u hf hu)
  have HTY := Lib.hid (fun W (hb : Below w1.heap.size w1 W) => va_tallyOf W yt cy hyb (hvy.later (hb1.trans (hb.mono hb1.size))))
  obtain ⟨k, hk⟩ : ∃ k, k = a.k := ⟨_, rfl⟩
  cases hat : atT a i u with
  | none =>
   rw [hat] at HATT
   by_cases hk4 : a.k = 4
   ·have e : setT a s i u yt = (nullT, 5) := by unfold setT; rw [if_neg (by simpa using hf), if_neg h6, hat]; exact if_pos hk4
    rw [e]
    rw [hk4] at HKA
    clear hx1 hy1 hz1 hr1 hs1 hb1 ha hva hyb hvy hf h6 e hat hT hu hSa hla hba hra hma hda hba1 hal hle ht1 hn1 hdy hny hpa hsda cpa hza h4 hk hk4 HTY
    go_enter Tryz.func35, Tryz.ntmps35
    go_upto_region 1 with fail
    clear hw1
    go_upto_region 6 with (first
     | (refine ld_if rfl 35 _ rfl w.heap.size rfl 35 _ _ _ HX1.out Tryz.underlying35 rfl val_size ?_)
     | (refine ld_if rfl 44 _ rfl (w.heap.size + 1) rfl 44 _ _ _ HY1.out Tryz.underlying44 rfl step_size ?_)
     | (go_at_call 51; (with_reducible refine HBE.out.mono ?_); rintro r w2 ⟨rfl, hb2⟩; have HB2 := Lib.hid hb2; have HX2 := Lib.hid ((hb2.block _ (Array.getElem?_eq_some_iff.1 HX1.out).1).trans HX1.out); have HY2 := Lib.hid ((hb2.block _ (Array.getElem?_eq_some_iff.1 HY1.out).1).trans HY1.out); have HZ2 := Lib.hid ((hb2.block _ (Array.getElem?_eq_some_iff.1 HZ1.out).1).trans HZ1.out); have HR2 := Lib.hid ((hb2.block _ (Array.getElem?_eq_some_iff.1 HR1.out).1).trans HR1.out); clear hb2)
     | (refine ld_if rfl 35 _ rfl w.heap.size rfl 35 _ _ _ HX2.out Tryz.underlying35 rfl val_size ?_)
     | (go_at_call 37; (with_reducible refine (HKA.out _).mono ?_); rintro r w3 ⟨rfl, hb3⟩; have HB3 := Lib.hid (HB2.out.trans (hb3.mono HB2.out.size)); have HX3 := Lib.hid ((hb3.block _ (Array.getElem?_eq_some_iff.1 HX2.out).1).trans HX2.out); have HY3 := Lib.hid ((hb3.block _ (Array.getElem?_eq_some_iff.1 HY2.out).1).trans HY2.out); have HZ3 := Lib.hid ((hb3.block _ (Array.getElem?_eq_some_iff.1 HZ2.out).1).trans HZ2.out); have HR3 := Lib.hid ((hb3.block _ (Array.getElem?_eq_some_iff.1 HR2.out).1).trans HR2.out); clear hb3))
    have cp3 : w3.cell? ⟨w.heap.size, 3, none⟩ = some (.pointer (some ⟨ba, 0, none⟩)) := keep_cell HCI.out.1 HB3.out
    go_upto_region 7 with (first
     | (refine ld_if rfl 35 _ rfl w.heap.size rfl 35 _ _ _ HX3.out Tryz.underlying35 rfl val_size ?_)
     | (refine wpList_load_mid rfl 107 _ rfl ba 10 rfl [da0, .int .i64 (nodL a.xs : Int)] _ (keep_range HCI.out.2 HB3.out) Tryz.underlying107 rfl tally_size ?_)
     | (refine st_agg rfl 107 _ _ rfl w3.heap.size #[da0, .int .i64 (nodL a.xs : Int)] rfl rfl 107 _ (heap_alloc_last _ _) tally_size rfl HC1.out ?_; intro w4 h4' k4))
    have hB4 := (Below.newly' w3 (.cells #[.slice none 0 0, .int .i64 0] 107)).trans (k4.below (Nat.le_refl _))
    have HB4 := Lib.hid (HB3.out.trans (hB4.mono HB3.out.size))
    have HX4 := Lib.hid ((hB4.block _ (Array.getElem?_eq_some_iff.1 HX3.out).1).trans HX3.out)
    have HY4 := Lib.hid ((hB4.block _ (Array.getElem?_eq_some_iff.1 HY3.out).1).trans HY3.out)
    have HZ4 := Lib.hid ((hB4.block _ (Array.getElem?_eq_some_iff.1 HZ3.out).1).trans HZ3.out)
    have HR4 := Lib.hid ((hB4.block _ (Array.getElem?_eq_some_iff.1 HR3.out).1).trans HR3.out)
    replace cp3 := keep_cell HCI.out.1 HB4.out
    clear h4' k4 hB4
    go_wp2_with (first
     | (refine ld_if rfl 44 _ rfl (w.heap.size + 1) rfl 44 _ _ _ HY4.out Tryz.underlying44 rfl step_size ?_)
     | (go_at_call 52; (with_reducible refine (HATT.out _ (HB1.out.trans (HB4.out.mono HB1.out.size))).mono ?_); rintro r w5 ⟨xo, rfl, ho, hb5⟩; have HB5 := Lib.hid (HB4.out.trans (hb5.mono HB4.out.size)); have HX5 := Lib.hid ((hb5.block _ (Array.getElem?_eq_some_iff.1 HX4.out).1).trans HX4.out); have HY5 := Lib.hid ((hb5.block _ (Array.getElem?_eq_some_iff.1 HY4.out).1).trans HY4.out); have HZ5 := Lib.hid ((hb5.block _ (Array.getElem?_eq_some_iff.1 HZ4.out).1).trans HZ4.out); have HR5 := Lib.hid ((hb5.block _ (Array.getElem?_eq_some_iff.1 HR4.out).1).trans HR4.out); clear hb5 ho)
     | (refine st_agg rfl 35 _ _ rfl w5.heap.size (celC xo) rfl rfl 35 _ (heap_alloc_last _ _) val_size rfl (celC_one xo) ?_; intro w6 h6 k6; have hB6 := (Below.newly' w5 (.cells #[.int .i64 0, .int .i64 0, .string ⟨#[]⟩, .pointer none] 35)).trans (k6.below (Nat.le_refl _)); have HB6 := Lib.hid (HB5.out.trans (hB6.mono HB5.out.size)); have HX6 := Lib.hid ((hB6.block _ (Array.getElem?_eq_some_iff.1 HX5.out).1).trans HX5.out); have HY6 := Lib.hid ((hB6.block _ (Array.getElem?_eq_some_iff.1 HY5.out).1).trans HY5.out); have HZ6 := Lib.hid ((hB6.block _ (Array.getElem?_eq_some_iff.1 HZ5.out).1).trans HZ5.out); have HR6 := Lib.hid ((hB6.block _ (Array.getElem?_eq_some_iff.1 HR5.out).1).trans HR5.out); clear h6 k6 hB6)
     | (refine ld_if rfl 35 _ rfl w.heap.size rfl 35 _ _ _ HX6.out Tryz.underlying35 rfl val_size ?_)
     | (go_at_call 37; (with_reducible refine (HKA.out _).mono ?_); rintro r w7 ⟨rfl, hb7⟩; have HB7 := Lib.hid (HB6.out.trans (hb7.mono HB6.out.size)); have HR7 := Lib.hid ((hb7.block _ (Array.getElem?_eq_some_iff.1 HR6.out).1).trans HR6.out); clear hb7)
     | (refine st_agg rfl 35 _ _ rfl (w.heap.size + 3) #[.int .i64 0, .int .i64 0, .string ⟨#[]⟩, .pointer none] rfl rfl 35 _ HR7.out val_size rfl (by simp [Value.oneCell']) ?_; intro w5 h5 k5))
    exact bodyPost_ret (results_cell_row1 rfl _ _ (w.heap.size + 3) 35 _ (0, 0) _ rfl h5 Tryz.underlying35 rfl val_size) rfl ⟨zeroV, rfl, vAt_null _ _, (HB1.out.trans (HB7.out.mono HB1.out.size)).trans (k5.below (by omega))⟩
   have h5 : a.k = 5 := by rcases fit_kind hf with ⟨_, h⟩ | ⟨_, h⟩ | ⟨_, h⟩ <;> omega
   have e : setT a s i u yt = withinT (Tr.nd a.k 0 ⟨#[]⟩ (putN (placeK a.ks u) a.ks u) (putN (placeK a.ks u) a.xs yt)) := by unfold setT; rw [if_neg (by simpa using hf), if_neg h6, hat]; exact if_neg hk4
   rw [e]
   rw [h5] at HKA
   have hset := put_perm2 (placeK a.ks u) a.xs yt
   have i1 := tal_len (putN (placeK a.ks u) a.xs yt)
   have i2 := nodL_perm hset
   have i3 := depL_perm hset
   rw [nodL_app] at i2
   rw [depL_app] at i3
   simp only [depL, nodL] at i2 i3
   have HPL : Hid (∀ W d dt, CutAt (fun _ => True) W 1 d (iv (tal a.xs)) (tal a.xs).length → CutAt (fun _ => True) W 1 dt (iv (tal [yt])) (tal [yt]).length → Calls Tryz.prog 69 #[.agg #[d, .int .i64 ((nodL a.xs : Nat) : Int)], .agg #[dt, .int .i64 ((nodT yt : Nat) : Int)]] W fun r W' => ∃ dn, r = .returned (.agg #[dn, .int .i64 ((nodL (putN (placeK a.ks u) a.xs yt) : Nat) : Int)]) ∧ CutAt (fun g => W.heap.size ≤ g) W' 1 dn (iv (tal (putN (placeK a.ks u) a.xs yt))) (tal (putN (placeK a.ks u) a.xs yt)).length ∧ Below W.heap.size W W') := fun W d dt hd hdt => by
    have h := tl_plus (S := fun _ => True) W d dt (tal a.xs) (tal [yt]) (nodL a.xs) (nodT yt) hd hdt (by omega) (by rw [tal_len]; simp only [depL]; have := hyb.dep; omega) (tal_rng ha) (rng_tal (by simp)) (by omega) (by have := hyb.nod; omega)
    rw [plus_tal, show nodL a.xs + nodT yt = nodL (a.xs ++ [yt]) by rw [nodL_app]; simp [nodL], tal_perm hset, nodL_perm hset] at h
    exact h
   rw [tal_len] at ht1
   have HCH : Hid (∀ W dn, Below w1.heap.size w1 W → CutAt (fun g => w1.heap.size ≤ g) W 1 dn (iv (tal (putN (placeK a.ks u) a.xs yt))) (tal (putN (placeK a.ks u) a.xs yt)).length → Calls Tryz.prog 68 #[.agg (celC xa), .agg #[dn, .int .i64 ((nodL (putN (placeK a.ks u) a.xs yt) : Nat) : Int)], .func (.func 73) #[] #[.pointer (some ⟨w.heap.size + 1, 0, none⟩), .pointer (some ⟨w.heap.size + 2, 0, none⟩)]] W fun r W' => ∃ y, r = .returned (.tuple #[.agg (celC y), .int .i64 (withinT (Tr.nd a.k 0 ⟨#[]⟩ (putN (placeK a.ks u) a.ks u) (putN (placeK a.ks u) a.xs yt))).2]) ∧ VAt (fun g => ((S g ∧ g < w.heap.size) ∨ w1.heap.size ≤ g) ∨ W.heap.size ≤ g) W' (withinT (Tr.nd a.k 0 ⟨#[]⟩ (putN (placeK a.ks u) a.ks u) (putN (placeK a.ks u) a.xs yt))).1 y ∧ Below W.heap.size W W') := (fun W dn hW hdn => by
    have hbW := hb1.trans (hW.mono hb1.size)
    have hyW := (hW.block _ (Array.getElem?_eq_some_iff.1 hy1).1).trans hy1
    have hzW := (hW.block _ (Array.getElem?_eq_some_iff.1 hz1).1).trans hz1
    exact va_changedT (S := (fun g => (S g ∧ g < w.heap.size) ∨ w1.heap.size ≤ g)) W xa ba hpa rca mca da0 (nodL a.xs) fra ((hbW.block _ (Array.getElem?_eq_some_iff.1 hba).1).trans hba) _ ((hra.later hbW).weak fun _ h => .inl h) _ sda nna ((hma.later hbW).weak fun _ h => .inl h) hsda (tal a.xs) ((hda.later hbW).weak fun _ h => .inl h) 73 #[.pointer (some ⟨w.heap.size + 1, 0, none⟩), .pointer (some ⟨w.heap.size + 2, 0, none⟩)] (enters_of Tryz.func73 (by kernel_rfl) rfl)
     (Tr.nd a.k 0 ⟨#[]⟩ (putN (placeK a.ks u) a.ks u) (putN (placeK a.ks u) a.xs yt)) h4 hva.k ⟨(hva.two ha h4).1, rfl⟩ ⟨(hva.two ha h4).2, rfl⟩ (putN (placeK a.ks u) la cy) (vAtL_put ((hla.later hbW).weak fun _ h => .inl h) _ ((hvy.old.later hbW).weak fun _ h => .inl h))
     (by
      rw [nd_k, nd_ks, nd_xs]
      obtain ⟨k1, k2, _⟩ := ha.mkeys (.inl h5)
      rw [at_idx (.inl h5)] at hat
      have hk : a.k ≠ 4 := by omega
      have hmk : ∀ ks xs, mkeys a.k ks xs = ks := fun ks xs => by unfold mkeys; rw [if_pos h5]
      have hM : RiseK a.ks := by rw [hmk] at k2; exact k2
      have hML : a.ks.length = la.length := by rw [hmk] at k1; omega
      rw [hmk] at hat
      have hmm : mapE a.k a.ks a.xs la = a.ks.zip la := by rw [mapE, hmk]
      rw [item_map hk, mapE, hmk, ← ins_zip_put hM hML hat]
      rw [item_map hk] at hra
      rw [hmm] at hma
      exact chg_set_map (S := (fun g => (S g ∧ g < w.heap.size) ∨ w1.heap.size ≤ g)) (w := W) s i u (by rcases fit_kind hf with ⟨_, h⟩ | ⟨_, h⟩ | ⟨_, h⟩ <;> omega) ((hra.later hbW).weak fun _ h => .inl h) ((hma.later hbW).weak fun _ h => .inl h) hsda (zip_rise hM hML) (by rw [List.length_zip]; omega) hu (hT.below hbW) (w.heap.size + 1) (0, 0) hyW (w.heap.size + 2) cy (0, 0) hzW hza.1 hza.2
     )
     dn (hdn.weak fun _ h => .inr h) (by rw [nd_xs]; omega) (by rw [nd_xs]; omega))
   have HDA := Lib.hid hda
   obtain ⟨zs, hzs⟩ : ∃ zs, zs = a.xs := ⟨_, rfl⟩
   obtain ⟨ns, hns⟩ : ∃ ns, ns = putN (placeK a.ks u) a.xs yt := ⟨_, rfl⟩
   obtain ⟨A', hA'⟩ : ∃ t, t = (Tr.nd a.k 0 ⟨#[]⟩ (putN (placeK a.ks u) a.ks u) (putN (placeK a.ks u) a.xs yt)) := ⟨_, rfl⟩
   rw [← hA'] at HCH ⊢
   rw [← hns] at HCH HPL
   rw [← hzs] at HPL HDA HC1 HCI
   obtain ⟨R1, hR1⟩ : ∃ t, t = (withinT A').1 := ⟨_, rfl⟩
   obtain ⟨R2, hR2⟩ : ∃ t, t = (withinT A').2 := ⟨_, rfl⟩
   rw [← hR1, ← hR2] at HCH ⊢
   clear hA' hzs hns hR1 hR2 hx1 hy1 hz1 hr1 hs1 hb1 ha hva hyb hvy hf h6 e hat hT hu hSa hla hba hra hma hda hba1 hal hle ht1 hn1 hdy hny hpa hsda cpa hza hset i1 i2 i3 h4 h5 hk hk4
   go_enter Tryz.func35, Tryz.ntmps35
   go_upto_region 1 with fail
   clear hw1
   go_upto_region 6 with (first
    | (refine ld_if rfl 35 _ rfl w.heap.size rfl 35 _ _ _ HX1.out Tryz.underlying35 rfl val_size ?_)
    | (refine ld_if rfl 44 _ rfl (w.heap.size + 1) rfl 44 _ _ _ HY1.out Tryz.underlying44 rfl step_size ?_)
    | (go_at_call 51; (with_reducible refine HBE.out.mono ?_); rintro r w2 ⟨rfl, hb2⟩; have HB2 := Lib.hid hb2; have HX2 := Lib.hid ((hb2.block _ (Array.getElem?_eq_some_iff.1 HX1.out).1).trans HX1.out); have HY2 := Lib.hid ((hb2.block _ (Array.getElem?_eq_some_iff.1 HY1.out).1).trans HY1.out); have HZ2 := Lib.hid ((hb2.block _ (Array.getElem?_eq_some_iff.1 HZ1.out).1).trans HZ1.out); have HR2 := Lib.hid ((hb2.block _ (Array.getElem?_eq_some_iff.1 HR1.out).1).trans HR1.out); clear hb2)
    | (refine ld_if rfl 35 _ rfl w.heap.size rfl 35 _ _ _ HX2.out Tryz.underlying35 rfl val_size ?_)
    | (go_at_call 37; (with_reducible refine (HKA.out _).mono ?_); rintro r w3 ⟨rfl, hb3⟩; have HB3 := Lib.hid (HB2.out.trans (hb3.mono HB2.out.size)); have HX3 := Lib.hid ((hb3.block _ (Array.getElem?_eq_some_iff.1 HX2.out).1).trans HX2.out); have HY3 := Lib.hid ((hb3.block _ (Array.getElem?_eq_some_iff.1 HY2.out).1).trans HY2.out); have HZ3 := Lib.hid ((hb3.block _ (Array.getElem?_eq_some_iff.1 HZ2.out).1).trans HZ2.out); have HR3 := Lib.hid ((hb3.block _ (Array.getElem?_eq_some_iff.1 HR2.out).1).trans HR2.out); clear hb3))
   have cp3 : w3.cell? ⟨w.heap.size, 3, none⟩ = some (.pointer (some ⟨ba, 0, none⟩)) := keep_cell HCI.out.1 HB3.out
   go_upto_region 7 with (first
    | (refine ld_if rfl 35 _ rfl w.heap.size rfl 35 _ _ _ HX3.out Tryz.underlying35 rfl val_size ?_)
    | (refine wpList_load_mid rfl 107 _ rfl ba 10 rfl [da0, .int .i64 (nodL zs : Int)] _ (keep_range HCI.out.2 HB3.out) Tryz.underlying107 rfl tally_size ?_)
    | (refine st_agg rfl 107 _ _ rfl w3.heap.size #[da0, .int .i64 (nodL zs : Int)] rfl rfl 107 _ (heap_alloc_last _ _) tally_size rfl HC1.out ?_; intro w4 h4' k4))
   have hB4 := (Below.newly' w3 (.cells #[.slice none 0 0, .int .i64 0] 107)).trans (k4.below (Nat.le_refl _))
   have HB4 := Lib.hid (HB3.out.trans (hB4.mono HB3.out.size))
   have HX4 := Lib.hid ((hB4.block _ (Array.getElem?_eq_some_iff.1 HX3.out).1).trans HX3.out)
   have HY4 := Lib.hid ((hB4.block _ (Array.getElem?_eq_some_iff.1 HY3.out).1).trans HY3.out)
   have HZ4 := Lib.hid ((hB4.block _ (Array.getElem?_eq_some_iff.1 HZ3.out).1).trans HZ3.out)
   have HR4 := Lib.hid ((hB4.block _ (Array.getElem?_eq_some_iff.1 HR3.out).1).trans HR3.out)
   obtain ⟨C0, hC0⟩ : ∃ C0, C0 = w3.heap.size := ⟨_, rfl⟩
   rw [← hC0] at h4' ⊢
   have HC4 := Lib.hid h4'
   replace cp3 := keep_cell HCI.out.1 HB4.out
   clear h4' k4 hC0 hB4
   go_upto_region 12 with (first
    | (refine ld_if rfl 44 _ rfl (w.heap.size + 1) rfl 44 _ _ _ HY4.out Tryz.underlying44 rfl step_size ?_)
    | (go_at_call 52; (with_reducible refine (HATT.out _ (HB1.out.trans (HB4.out.mono HB1.out.size))).mono ?_); rintro r w5 ⟨xo, rfl, ho, hb5⟩; have HB5 := Lib.hid (HB4.out.trans (hb5.mono HB4.out.size)); have HX5 := Lib.hid ((hb5.block _ (Array.getElem?_eq_some_iff.1 HX4.out).1).trans HX4.out); have HY5 := Lib.hid ((hb5.block _ (Array.getElem?_eq_some_iff.1 HY4.out).1).trans HY4.out); have HZ5 := Lib.hid ((hb5.block _ (Array.getElem?_eq_some_iff.1 HZ4.out).1).trans HZ4.out); have HR5 := Lib.hid ((hb5.block _ (Array.getElem?_eq_some_iff.1 HR4.out).1).trans HR4.out); have HC5 := Lib.hid ((hb5.block _ (Array.getElem?_eq_some_iff.1 HC4.out).1).trans HC4.out); clear hb5 ho)
    | (refine st_agg rfl 35 _ _ rfl w5.heap.size (celC xo) rfl rfl 35 _ (heap_alloc_last _ _) val_size rfl (celC_one xo) ?_; intro w6 h6 k6; have hB6 := (Below.newly' w5 (.cells #[.int .i64 0, .int .i64 0, .string ⟨#[]⟩, .pointer none] 35)).trans (k6.below (Nat.le_refl _)); have HB6 := Lib.hid (HB5.out.trans (hB6.mono HB5.out.size)); have HX6 := Lib.hid ((hB6.block _ (Array.getElem?_eq_some_iff.1 HX5.out).1).trans HX5.out); have HY6 := Lib.hid ((hB6.block _ (Array.getElem?_eq_some_iff.1 HY5.out).1).trans HY5.out); have HZ6 := Lib.hid ((hB6.block _ (Array.getElem?_eq_some_iff.1 HZ5.out).1).trans HZ5.out); have HR6 := Lib.hid ((hB6.block _ (Array.getElem?_eq_some_iff.1 HR5.out).1).trans HR5.out); have HC6 := Lib.hid ((hB6.block _ (Array.getElem?_eq_some_iff.1 HC5.out).1).trans HC5.out); clear h6 k6 hB6)
    | (refine ld_if rfl 35 _ rfl w.heap.size rfl 35 _ _ _ HX6.out Tryz.underlying35 rfl val_size ?_)
    | (go_at_call 37; (with_reducible refine (HKA.out _).mono ?_); rintro r w9 ⟨rfl, hb9⟩; have HLW := Lib.hid (HB6.out.trans (hb9.mono HB6.out.size)); have HX9 := Lib.hid ((hb9.block _ (Array.getElem?_eq_some_iff.1 HX6.out).1).trans HX6.out); have HY9 := Lib.hid ((hb9.block _ (Array.getElem?_eq_some_iff.1 HY6.out).1).trans HY6.out); have HZ9 := Lib.hid ((hb9.block _ (Array.getElem?_eq_some_iff.1 HZ6.out).1).trans HZ6.out); have HR9 := Lib.hid ((hb9.block _ (Array.getElem?_eq_some_iff.1 HR6.out).1).trans HR6.out); have HC9 := Lib.hid ((hb9.block _ (Array.getElem?_eq_some_iff.1 HC6.out).1).trans HC6.out); clear hb9))
   have HDC := Lib.hid ((HDA.out.later (HB1.out.trans (HLW.out.mono HB1.out.size))).weak (S' := fun _ => True) fun _ _ => trivial)
   clear HX2 HX3 HX4 HX5 HX6 HY2 HY3 HY4 HY5 HY6 HZ2 HZ3 HZ4 HZ5 HZ6 HR2 HR3 HR4 HR5 HR6 HC4 HC5 HC6 HATT HB2 HB3 HB4 HB5 HB6 HC1 HCI cp3
   have HKS : Hid (∀ V, Below w9.heap.size w9 V → V.heap[w.heap.size]? = some (.cells (celC xa) 35 (0, 0)) ∧ V.heap[C0]? = some (.cells #[da0, .int .i64 ((nodL zs : Nat) : Int)] 107 (0, 0)) ∧ V.heap[w.heap.size + 2]? = some (.cells (celC cy) 35 (0, 0))) := fun V hV => ⟨(hV.block _ (Array.getElem?_eq_some_iff.1 HX9.out).1).trans HX9.out, (hV.block _ (Array.getElem?_eq_some_iff.1 HC9.out).1).trans HC9.out, (hV.block _ (Array.getElem?_eq_some_iff.1 HZ9.out).1).trans HZ9.out⟩
   have HW : Hid (Below w9.heap.size w9 w9.drew) := drawn_below w9
   refine wp_region_T (S := (fun V => V.heap[w.heap.size]? = some (.cells (celC xa) 35 (0, 0)) ∧ V.heap[C0]? = some (.cells #[da0, .int .i64 ((nodL zs : Nat) : Int)] 107 (0, 0)) ∧ V.heap[w.heap.size + 2]? = some (.cells (celC cy) 35 (0, 0)))) [9, 10] (by kernel_rfl) (by exact HKS.out _ HW.out) (fun hHeld => ?_)
   refine tyL 0 46 (hy := yieldsIf_load_row (by rfl) 35 _ rfl w.heap.size rfl (celC xa) 35 (0, 0) _ (fun w hw => hw.1) Tryz.underlying35 rfl (by exact val_size)) (h := ?_)
   refine tyL 1 47 (hy := yieldsIf_load_row (by rfl) 107 _ rfl C0 rfl #[da0, .int .i64 ((nodL zs : Nat) : Int)] 107 (0, 0) _ (fun w hw => hw.2.1) Tryz.underlying107 rfl (by exact tally_size)) (h := ?_)
   (try simp only [pq])
   refine tyL 2 48 (hy := yieldsIf_load_row (by rfl) 35 _ rfl (w.heap.size + 2) rfl (celC cy) 35 (0, 0) _ (fun w hw => hw.2.2) Tryz.underlying35 rfl (by exact val_size)) (h := ?_)
   refine tkL 5 51 (h := ?_)
   (try simp only [pq])
   refine tkO 3 (some 49) (h := fun K hK => ?_)
   go_simp
   go_at_call 70
   (with_reducible refine (HTY.out _ (by exact HLW.out.trans (HW.out.mono HLW.out.size))).mono ?_)
   rintro r wA ⟨dt, rfl, hd, hb⟩
   have HDT := Lib.hid hd
   replace HW := Lib.hid (HW.out.trans (hb.mono HW.out.size))
   clear hb hd
   dsimp only
   refine hK.out _ _ (by exact HKS.out _ HW.out) (fun hHeld => ?_)
   clear hK K
   (try simp only [pq])
   refine tkO 4 (some 50) (h := fun K hK => ?_)
   go_simp
   go_at_call 69
   (with_reducible refine (HPL.out _ da0 dt (by exact (HDC.out.later HW.out).weak fun _ _ => trivial) (by exact HDT.out.weak fun _ _ => trivial)).mono ?_)
   rintro r wB ⟨dn, rfl, hd, hb⟩
   have HDN := Lib.hid hd
   have HSW := Lib.hid HW.out.size
   replace HW := Lib.hid (HW.out.trans (hb.mono HW.out.size))
   clear hb hd
   dsimp only
   refine hK.out _ _ (by exact HKS.out _ HW.out) (fun hHeld => ?_)
   clear hK K
   (try simp only [pq])
   refine tkO 6 (some 52) (h := fun K hK => ?_)
   have HWC : Hid (w1.heap.size ≤ wB.heap.size) := Nat.le_trans HLW.out.size HW.out.size
   go_simp
   go_at_call 68
   (with_reducible refine (HCH.out _ dn (by exact HLW.out.trans (HW.out.mono HLW.out.size)) (by exact HDN.out.weak fun g hg => Nat.le_trans (Nat.le_trans HLW.out.size HSW.out) hg)).mono ?_)
   rintro r wC ⟨y, rfl, hy, hb⟩
   have HYY := Lib.hid hy
   replace HW := Lib.hid (HW.out.trans (hb.mono HW.out.size))
   clear hb hy
   dsimp only
   refine hK.out _ _ (by exact HKS.out _ HW.out) (fun hHeld => ?_)
   clear hK K
   (try simp only [pq])
   refine tkL 7 53 (h := ?_)
   refine tkL 8 54 (h := ?_)
   (try simp only [pq])
   refine tkU 9 none (h := fun K hK => ?_)
   refine st_agg_wp 35 _ _ rfl (w.heap.size + 3) (celC y) rfl rfl 35 _ ((HW.out.block _ (by exact (Array.getElem?_eq_some_iff.1 HR9.out).1)).trans HR9.out) val_size rfl (celC_one y) ?_
   intro w8 h8 k8
   refine hK.out _ _ ?_
   clear hK K
   (try simp only [pq])
   refine tkU 10 (some 7) (h := fun K hK => ?_)
   go_simp
   refine hK.out _ _ ?_
   clear hK K
   (try simp only [pq])
   refine wpAnyT_done (by kernel_rfl) ?_ _
   clear hHeld
   go_wp2_with fail
   have hs1 := HS1.out
   have hl := HLW.out.size
   have hw5 := HW.out.size
   refine bodyPost_ret (results_cell_row1 rfl _ _ (w.heap.size + 3) 35 _ (0, 0) _ rfl h8 Tryz.underlying35 rfl val_size) rfl ⟨y, rfl, (HYY.out.imp (Kq.only k8 ?_) ?_), (HB1.out.trans ((HLW.out.trans (HW.out.mono HLW.out.size)).mono HB1.out.size)).trans (k8.below (by omega))⟩
   ·exact fun h => by have := HWC.out; rcases h with (h | h) | h <;> omega
   ·exact fun g h _ => by have := HWC.out; rcases h with (h | h) | h <;> first | exact .inl h.1 | exact .inr (by omega)
  | some j =>
   have hj := at_lt ha.1.1 hat
   have e : setT a s i u yt = withinT (Tr.nd a.k 0 ⟨#[]⟩ a.ks (a.xs.set j yt)) := by unfold setT; rw [if_neg (by simpa using hf), if_neg h6, hat]
   rw [e]
   rw [hat, part_some hj hat] at HATT
   have hpj := ha.part (List.getElem_mem hj)
   have hperm := erase_perm hj
   have hnn := nodL_del a.xs j hj
   have hset := set_perm hj yt
   have i1 := tal_len (a.xs.set j yt)
   have i2 := nodL_perm hset
   have i3 := depL_perm hset
   have i4 := depL_sub (List.eraseIdx_sublist a.xs j)
   rw [nodL_app] at i2
   rw [depL_app] at i3
   simp only [depL, nodL] at i2 i3
   have i5 := tal_len (a.xs.eraseIdx j)
   rw [tal_len] at ht1
   have HTO : Hid (∀ W, Below w.heap.size w W → ∀ xo, VAt (fun g => S g ∧ g < w.heap.size) W a.xs[j] xo → Calls Tryz.prog 70 #[.agg (celC xo)] W fun r W' => ∃ d, r = .returned (.agg #[d, .int .i64 ((nodT a.xs[j] : Nat) : Int)]) ∧ CutAt (fun g => W.heap.size ≤ g) W' 1 d (iv (tal [a.xs[j]])) (tal [a.xs[j]]).length ∧ Below W.heap.size W W') := fun W _ xo hxo => va_tallyOf W _ xo hpj hxo
   have HLS : Hid (∀ W dt, Below w.heap.size w W → CutAt (fun _ => True) W 1 dt (iv (tal [a.xs[j]])) (tal [a.xs[j]]).length → Calls Tryz.prog 72 #[.agg #[da0, .int .i64 (nodL a.xs : Int)], .agg #[dt, .int .i64 ((nodT a.xs[j] : Nat) : Int)]] W fun r W' => ∃ dn, r = .returned (.agg #[dn, .int .i64 ((nodL (a.xs.eraseIdx j) : Nat) : Int)]) ∧ CutAt (fun g => W.heap.size ≤ g) W' 1 dn (iv (tal (a.xs.eraseIdx j))) (tal (a.xs.eraseIdx j)).length ∧ Below W.heap.size W W') := fun W dt hW hdt => by
    have h := tl_less (S := fun _ => True) W da0 dt (tal a.xs) (tal [a.xs[j]]) (nodL a.xs) (nodT a.xs[j]) ((hda.later hW).weak fun _ _ => trivial) hdt (by rw [tal_len]; have := depL_mem (List.getElem_mem hj); have := dep_pos a.xs[j]; omega) (by rw [tal_len]; omega) (tal_one_le (List.getElem_mem hj)) (tal_rng ha) (rng_tal (by simp)) (by omega) (nodL_mem (List.getElem_mem hj))
    rw [less_tal hperm, show nodL a.xs - nodT a.xs[j] = nodL (a.xs.eraseIdx j) by omega] at h
    exact h
   have HPL : Hid (∀ W d dt, CutAt (fun _ => True) W 1 d (iv (tal (a.xs.eraseIdx j))) (tal (a.xs.eraseIdx j)).length → CutAt (fun _ => True) W 1 dt (iv (tal [yt])) (tal [yt]).length → Calls Tryz.prog 69 #[.agg #[d, .int .i64 ((nodL (a.xs.eraseIdx j) : Nat) : Int)], .agg #[dt, .int .i64 ((nodT yt : Nat) : Int)]] W fun r W' => ∃ dn, r = .returned (.agg #[dn, .int .i64 ((nodL (a.xs.set j yt) : Nat) : Int)]) ∧ CutAt (fun g => W.heap.size ≤ g) W' 1 dn (iv (tal (a.xs.set j yt))) (tal (a.xs.set j yt)).length ∧ Below W.heap.size W W') := fun W d dt hd hdt => by
    have h := tl_plus (S := fun _ => True) W d dt (tal (a.xs.eraseIdx j)) (tal [yt]) (nodL (a.xs.eraseIdx j)) (nodT yt) hd hdt (by omega) (by rw [tal_len]; simp only [depL]; have := hyb.dep; omega) (rng_tal (by rw [List.length_eraseIdx_of_lt hj]; omega)) (rng_tal (by simp)) (by omega) (by have := hyb.nod; omega)
    rw [plus_tal, show nodL (a.xs.eraseIdx j) + nodT yt = nodL ((a.xs.eraseIdx j) ++ [yt]) by rw [nodL_app]; simp [nodL], tal_perm hset, nodL_perm hset] at h
    exact h
   have HCH : Hid (∀ W dn, Below w1.heap.size w1 W → CutAt (fun g => w1.heap.size ≤ g) W 1 dn (iv (tal (a.xs.set j yt))) (tal (a.xs.set j yt)).length → Calls Tryz.prog 68 #[.agg (celC xa), .agg #[dn, .int .i64 ((nodL (a.xs.set j yt) : Nat) : Int)], .func (.func 73) #[] #[.pointer (some ⟨w.heap.size + 1, 0, none⟩), .pointer (some ⟨w.heap.size + 2, 0, none⟩)]] W fun r W' => ∃ y, r = .returned (.tuple #[.agg (celC y), .int .i64 (withinT (Tr.nd a.k 0 ⟨#[]⟩ a.ks (a.xs.set j yt))).2]) ∧ VAt (fun g => ((S g ∧ g < w.heap.size) ∨ w1.heap.size ≤ g) ∨ W.heap.size ≤ g) W' (withinT (Tr.nd a.k 0 ⟨#[]⟩ a.ks (a.xs.set j yt))).1 y ∧ Below W.heap.size W W') := (fun W dn hW hdn => by
    have hbW := hb1.trans (hW.mono hb1.size)
    have hyW := (hW.block _ (Array.getElem?_eq_some_iff.1 hy1).1).trans hy1
    have hzW := (hW.block _ (Array.getElem?_eq_some_iff.1 hz1).1).trans hz1
    exact va_changedT (S := (fun g => (S g ∧ g < w.heap.size) ∨ w1.heap.size ≤ g)) W xa ba hpa rca mca da0 (nodL a.xs) fra ((hbW.block _ (Array.getElem?_eq_some_iff.1 hba).1).trans hba) _ ((hra.later hbW).weak fun _ h => .inl h) _ sda nna ((hma.later hbW).weak fun _ h => .inl h) hsda (tal a.xs) ((hda.later hbW).weak fun _ h => .inl h) 73 #[.pointer (some ⟨w.heap.size + 1, 0, none⟩), .pointer (some ⟨w.heap.size + 2, 0, none⟩)] (enters_of Tryz.func73 (by kernel_rfl) rfl)
     (Tr.nd a.k 0 ⟨#[]⟩ a.ks (a.xs.set j yt)) h4 hva.k ⟨(hva.two ha h4).1, rfl⟩ ⟨(hva.two ha h4).2, rfl⟩ (la.set j cy) (vAtL_set ((hla.later hbW).weak fun _ h => .inl h) j ((hvy.old.later hbW).weak fun _ h => .inl h))
     (by
      rw [nd_k, nd_ks, nd_xs]
      by_cases hk : a.k = 4
      ·obtain ⟨rfl, rfl⟩ : s = 0 ∧ i = (j : Int) := by
        refine ⟨by rcases fit_kind hf with ⟨h, _⟩ | ⟨_, h⟩ | ⟨_, h⟩ <;> omega, ?_⟩
        unfold atT at hat
        rw [if_pos hk] at hat
        split at hat
        ·simp only [Option.some.injEq] at hat; omega
        ·cases hat
       rw [item_vec hk, mapE_vec hk] at *
       exact chg_set_vec (S := (fun g => (S g ∧ g < w.heap.size) ∨ w1.heap.size ≤ g)) (w := W) (rc := rca) (mc := mca) (d0 := da0) (N0 := nodL a.xs) la j u ((hra.later hbW).weak fun _ h => .inl h) (by omega) (by omega) ((hma.later hbW).weak fun _ h => .inl h) (w.heap.size + 1) (0, 0) hyW (w.heap.size + 2) cy (0, 0) hzW hza.1 hza.2
      ·have h5 : a.k = 5 := by rcases fit_kind hf with ⟨_, h⟩ | ⟨_, h⟩ | ⟨_, h⟩ <;> omega
       obtain ⟨k1, k2, _⟩ := ha.mkeys (.inl h5)
       rw [at_idx (.inl h5)] at hat
       have hmk : ∀ xs, mkeys a.k a.ks xs = a.ks := fun xs => by unfold mkeys; rw [if_pos h5]
       have hM : RiseK a.ks := by rw [hmk] at k2; exact k2
       have hML : a.ks.length = la.length := by rw [hmk] at k1; omega
       rw [hmk] at hat
       have hmm : mapE a.k a.ks a.xs la = a.ks.zip la := by rw [mapE, hmk]
       rw [item_map hk, mapE, hmk, ← ins_zip_set hM hML hat]
       rw [item_map hk] at hra
       rw [hmm] at hma
       exact chg_set_map (S := (fun g => (S g ∧ g < w.heap.size) ∨ w1.heap.size ≤ g)) (w := W) s i u (by rcases fit_kind hf with ⟨_, h⟩ | ⟨_, h⟩ | ⟨_, h⟩ <;> omega) ((hra.later hbW).weak fun _ h => .inl h) ((hma.later hbW).weak fun _ h => .inl h) hsda (zip_rise hM hML) (by rw [List.length_zip]; omega) hu (hT.below hbW) (w.heap.size + 1) (0, 0) hyW (w.heap.size + 2) cy (0, 0) hzW hza.1 hza.2
     )
     dn (hdn.weak fun _ h => .inr h) (by rw [nd_xs]; omega) (by rw [nd_xs]; omega))
   obtain ⟨zs, hzs⟩ : ∃ zs, zs = a.xs.eraseIdx j := ⟨_, rfl⟩
   obtain ⟨ns, hns⟩ : ∃ ns, ns = a.xs.set j yt := ⟨_, rfl⟩
   obtain ⟨A', hA'⟩ : ∃ t, t = (Tr.nd a.k 0 ⟨#[]⟩ a.ks (a.xs.set j yt)) := ⟨_, rfl⟩
   obtain ⟨pj, hpj'⟩ : ∃ p, p = a.xs[j] := ⟨_, rfl⟩
   rw [← hA'] at HCH ⊢
   rw [← hns] at HCH HPL
   rw [← hzs] at HPL HLS
   rw [← hpj'] at HTO HLS HATT
   obtain ⟨R1, hR1⟩ : ∃ t, t = (withinT A').1 := ⟨_, rfl⟩
   obtain ⟨R2, hR2⟩ : ∃ t, t = (withinT A').2 := ⟨_, rfl⟩
   rw [← hR1, ← hR2] at HCH ⊢
   have h6' : ¬ k = 6 := by rw [hk]; exact h6
   rw [← hk] at HKA
   clear hA' hzs hns hpj' hR1 hR2 hx1 hy1 hz1 hr1 hs1 hb1 ha hva hyb hvy hf h6 e hat hT hu hSa hla hba hra hma hda hba1 hal hle ht1 hn1 hdy hny hpa hsda cpa hza hpj hperm hnn hset i1 i2 i3 i4 i5 h4 hj hk
   go_enter Tryz.func35, Tryz.ntmps35
   go_upto_region 1 with fail
   clear hw1
   go_upto_region 6 with (first
    | (refine ld_if rfl 35 _ rfl w.heap.size rfl 35 _ _ _ HX1.out Tryz.underlying35 rfl val_size ?_)
    | (refine ld_if rfl 44 _ rfl (w.heap.size + 1) rfl 44 _ _ _ HY1.out Tryz.underlying44 rfl step_size ?_)
    | (go_at_call 51; (with_reducible refine HBE.out.mono ?_); rintro r w2 ⟨rfl, hb2⟩; have HB2 := Lib.hid hb2; have HX2 := Lib.hid ((hb2.block _ (Array.getElem?_eq_some_iff.1 HX1.out).1).trans HX1.out); have HY2 := Lib.hid ((hb2.block _ (Array.getElem?_eq_some_iff.1 HY1.out).1).trans HY1.out); have HZ2 := Lib.hid ((hb2.block _ (Array.getElem?_eq_some_iff.1 HZ1.out).1).trans HZ1.out); have HR2 := Lib.hid ((hb2.block _ (Array.getElem?_eq_some_iff.1 HR1.out).1).trans HR1.out); clear hb2)
    | (refine ld_if rfl 35 _ rfl w.heap.size rfl 35 _ _ _ HX2.out Tryz.underlying35 rfl val_size ?_)
    | (go_at_call 37; (with_reducible refine (HKA.out _).mono ?_); rintro r w3 ⟨rfl, hb3⟩; have HB3 := Lib.hid (HB2.out.trans (hb3.mono HB2.out.size)); have HX3 := Lib.hid ((hb3.block _ (Array.getElem?_eq_some_iff.1 HX2.out).1).trans HX2.out); have HY3 := Lib.hid ((hb3.block _ (Array.getElem?_eq_some_iff.1 HY2.out).1).trans HY2.out); have HZ3 := Lib.hid ((hb3.block _ (Array.getElem?_eq_some_iff.1 HZ2.out).1).trans HZ2.out); have HR3 := Lib.hid ((hb3.block _ (Array.getElem?_eq_some_iff.1 HR2.out).1).trans HR2.out); clear hb3))
   have cp3 : w3.cell? ⟨w.heap.size, 3, none⟩ = some (.pointer (some ⟨ba, 0, none⟩)) := keep_cell HCI.out.1 HB3.out
   go_upto_region 7 with (first
    | (refine ld_if rfl 35 _ rfl w.heap.size rfl 35 _ _ _ HX3.out Tryz.underlying35 rfl val_size ?_)
    | (refine wpList_load_mid rfl 107 _ rfl ba 10 rfl [da0, .int .i64 (nodL a.xs : Int)] _ (keep_range HCI.out.2 HB3.out) Tryz.underlying107 rfl tally_size ?_)
    | (refine st_agg rfl 107 _ _ rfl w3.heap.size #[da0, .int .i64 (nodL a.xs : Int)] rfl rfl 107 _ (heap_alloc_last _ _) tally_size rfl HC1.out ?_; intro w4 h4' k4))
   have hB4 := (Below.newly' w3 (.cells #[.slice none 0 0, .int .i64 0] 107)).trans (k4.below (Nat.le_refl _))
   have HB4 := Lib.hid (HB3.out.trans (hB4.mono HB3.out.size))
   have HX4 := Lib.hid ((hB4.block _ (Array.getElem?_eq_some_iff.1 HX3.out).1).trans HX3.out)
   have HY4 := Lib.hid ((hB4.block _ (Array.getElem?_eq_some_iff.1 HY3.out).1).trans HY3.out)
   have HZ4 := Lib.hid ((hB4.block _ (Array.getElem?_eq_some_iff.1 HZ3.out).1).trans HZ3.out)
   have HR4 := Lib.hid ((hB4.block _ (Array.getElem?_eq_some_iff.1 HR3.out).1).trans HR3.out)
   obtain ⟨C0, hC0⟩ : ∃ C0, C0 = w3.heap.size := ⟨_, rfl⟩
   rw [← hC0] at h4' ⊢
   have HC4 := Lib.hid h4'
   have HG0 : Hid (w1.heap.size ≤ C0) := by show _ ≤ _; rw [hC0]; exact HB3.out.size
   replace cp3 := keep_cell HCI.out.1 HB4.out
   clear h4' k4 hC0 hB4
   go_upto_region 8 with (first
    | (refine ld_if rfl 44 _ rfl (w.heap.size + 1) rfl 44 _ _ _ HY4.out Tryz.underlying44 rfl step_size ?_)
    | (go_at_call 52; (with_reducible refine (HATT.out _ (HB1.out.trans (HB4.out.mono HB1.out.size))).mono ?_); rintro r w5 ⟨xo, rfl, ho, hb5⟩; have HB5 := Lib.hid (HB4.out.trans (hb5.mono HB4.out.size)); have HO5 := Lib.hid ho; have HX5 := Lib.hid ((hb5.block _ (Array.getElem?_eq_some_iff.1 HX4.out).1).trans HX4.out); have HY5 := Lib.hid ((hb5.block _ (Array.getElem?_eq_some_iff.1 HY4.out).1).trans HY4.out); have HZ5 := Lib.hid ((hb5.block _ (Array.getElem?_eq_some_iff.1 HZ4.out).1).trans HZ4.out); have HR5 := Lib.hid ((hb5.block _ (Array.getElem?_eq_some_iff.1 HR4.out).1).trans HR4.out); have HC5 := Lib.hid ((hb5.block _ (Array.getElem?_eq_some_iff.1 HC4.out).1).trans HC4.out); clear hb5 ho)
    | (refine st_agg rfl 35 _ _ rfl w5.heap.size (celC xo) rfl rfl 35 _ (heap_alloc_last _ _) val_size rfl (celC_one xo) ?_; intro w6 h6 k6))
   have hB6 := (Below.newly' w5 (.cells #[.int .i64 0, .int .i64 0, .string ⟨#[]⟩, .pointer none] 35)).trans (k6.below (Nat.le_refl _))
   have HB6 := Lib.hid (HB5.out.trans (hB6.mono HB5.out.size))
   have HX6 := Lib.hid ((hB6.block _ (Array.getElem?_eq_some_iff.1 HX5.out).1).trans HX5.out)
   have HY6 := Lib.hid ((hB6.block _ (Array.getElem?_eq_some_iff.1 HY5.out).1).trans HY5.out)
   have HZ6 := Lib.hid ((hB6.block _ (Array.getElem?_eq_some_iff.1 HZ5.out).1).trans HZ5.out)
   have HR6 := Lib.hid ((hB6.block _ (Array.getElem?_eq_some_iff.1 HR5.out).1).trans HR5.out)
   have HC6 := Lib.hid ((hB6.block _ (Array.getElem?_eq_some_iff.1 HC5.out).1).trans HC5.out)
   have HO6 := Lib.hid (HO5.out.later hB6)
   obtain ⟨M, hM⟩ : ∃ M, M = w5.heap.size := ⟨_, rfl⟩
   rw [← hM] at h6 ⊢
   have HM6 := Lib.hid h6
   clear h6 k6 hM hB6 cp3 HX2 HX3 HX4 HX5 HY2 HY3 HY4 HY5 HZ2 HZ3 HZ4 HZ5 HR2 HR3 HR4 HR5 HC4 HC5
   go_upto_region 9 with fail
   have HKS : Hid (∀ V, Below w6.heap.size w6 V → V.heap[C0]? = some (.cells #[da0, .int .i64 (nodL a.xs : Int)] 107 (0, 0)) ∧ V.heap[M]? = some (.cells (celC xo) 35 (0, 0))) := fun V hV => ⟨(hV.block _ (Array.getElem?_eq_some_iff.1 HC6.out).1).trans HC6.out, (hV.block _ (Array.getElem?_eq_some_iff.1 HM6.out).1).trans HM6.out⟩
   have HW : Hid (Below w6.heap.size w6 w6.drew) := drawn_below w6
   refine wp_region_T (S := (fun V => V.heap[C0]? = some (.cells #[da0, .int .i64 (nodL a.xs : Int)] 107 (0, 0)) ∧ V.heap[M]? = some (.cells (celC xo) 35 (0, 0)))) [4] (by kernel_rfl) (by exact HKS.out _ HW.out) (fun hHeld => ?_)
   refine tyL 0 37 (hy := yieldsIf_load_row (by rfl) 107 _ rfl C0 rfl #[da0, .int .i64 (nodL a.xs : Int)] 107 (0, 0) _ (fun w hw => hw.1) Tryz.underlying107 rfl (by exact tally_size)) (h := ?_)
   refine tyL 1 38 (hy := yieldsIf_load_row (by rfl) 35 _ rfl M rfl (celC xo) 35 (0, 0) _ (fun w hw => hw.2) Tryz.underlying35 rfl (by exact val_size)) (h := ?_)
   (try simp only [pq])
   refine tkO 2 (some 39) (h := fun K hK => ?_)
   go_simp
   go_at_call 70
   (with_reducible refine (HTO.out _ (by exact HB1.out.trans ((HB6.out.trans (HW.out.mono HB6.out.size)).mono HB1.out.size)) xo (by exact HO6.out.later HW.out)).mono ?_)
   rintro r w7 ⟨dt, rfl, hd, hb⟩
   have HDT := Lib.hid hd
   replace HW := Lib.hid (HW.out.trans (hb.mono HW.out.size))
   clear hb hd
   dsimp only
   refine hK.out _ _ (by exact HKS.out _ HW.out) (fun hHeld => ?_)
   clear hK K
   (try simp only [pq])
   refine tkO 3 (some 40) (h := fun K hK => ?_)
   go_simp
   go_at_call 72
   (with_reducible refine (HLS.out _ dt (by exact HB1.out.trans ((HB6.out.trans (HW.out.mono HB6.out.size)).mono HB1.out.size)) (by exact HDT.out.weak fun _ _ => trivial)).mono ?_)
   rintro r w8 ⟨dc, rfl, hd, hb⟩
   have HDC0 := Lib.hid hd
   have HSW0 := Lib.hid HW.out.size
   replace HW := Lib.hid (HW.out.trans (hb.mono HW.out.size))
   clear hb hd
   dsimp only
   refine hK.out _ _ (by exact HKS.out _ HW.out) (fun hHeld => ?_)
   clear hK K
   (try simp only [pq])
   refine tkU 4 none (h := fun K hK => ?_)
   refine st_agg_wp 107 _ _ rfl C0 #[dc, .int .i64 ((nodL zs : Nat) : Int)] rfl rfl 107 _ ((HW.out.block _ (by exact (Array.getElem?_eq_some_iff.1 HC6.out).1)).trans HC6.out) tally_size rfl (by have := HDC0.out.shape; obtain ⟨_, _, e, _⟩ := this; rw [e]; simp [Value.oneCell']) ?_
   intro w9 h9 k9
   refine hK.out _ _ ?_
   clear hK K
   (try simp only [pq])
   refine wpAnyT_done (by kernel_rfl) ?_ _
   clear hHeld
   have hg0 := HG0.out
   have hs1 := HS1.out
   have hc6 := (Array.getElem?_eq_some_iff.1 HC6.out).1
   have hlw0 := HSW0.out
   have HLW : Hid (Below w1.heap.size w1 w9) := (HB6.out.trans (HW.out.mono HB6.out.size)).trans (k9.below hg0)
   have HDC := Lib.hid ((HDC0.out.imp (Kq.only k9 (fun h => by have h' : _ ≤ C0 := h; have : w6.drew.heap.size = w6.heap.size := rfl; omega)) (fun g h _ => h)).weak (S' := fun _ => True) fun _ _ => trivial)
   have HX9 := Lib.hid (k9.other ((HW.out.block _ (Array.getElem?_eq_some_iff.1 HX6.out).1).trans HX6.out) (by omega))
   have HY9 := Lib.hid (k9.other ((HW.out.block _ (Array.getElem?_eq_some_iff.1 HY6.out).1).trans HY6.out) (by omega))
   have HZ9 := Lib.hid (k9.other ((HW.out.block _ (Array.getElem?_eq_some_iff.1 HZ6.out).1).trans HZ6.out) (by omega))
   have HR9 := Lib.hid (k9.other ((HW.out.block _ (Array.getElem?_eq_some_iff.1 HR6.out).1).trans HR6.out) (by omega))
   have HC9 := Lib.hid h9
   clear h9 k9 hg0 hs1 hc6 hlw0 HW HKS HX6 HY6 HZ6 HR6 HC6 HM6 HO5 HO6 HTO HLS HATT HDT HDC0 HB2 HB3 HB4 HB5 HB6 HC1 HCI
   go_upto_region 12 with fail
   have HKS : Hid (∀ V, Below w9.heap.size w9 V → V.heap[w.heap.size]? = some (.cells (celC xa) 35 (0, 0)) ∧ V.heap[C0]? = some (.cells #[dc, .int .i64 ((nodL zs : Nat) : Int)] 107 (0, 0)) ∧ V.heap[w.heap.size + 2]? = some (.cells (celC cy) 35 (0, 0))) := fun V hV => ⟨(hV.block _ (Array.getElem?_eq_some_iff.1 HX9.out).1).trans HX9.out, (hV.block _ (Array.getElem?_eq_some_iff.1 HC9.out).1).trans HC9.out, (hV.block _ (Array.getElem?_eq_some_iff.1 HZ9.out).1).trans HZ9.out⟩
   have HW : Hid (Below w9.heap.size w9 w9.drew) := drawn_below w9
   refine wp_region_T (S := (fun V => V.heap[w.heap.size]? = some (.cells (celC xa) 35 (0, 0)) ∧ V.heap[C0]? = some (.cells #[dc, .int .i64 ((nodL zs : Nat) : Int)] 107 (0, 0)) ∧ V.heap[w.heap.size + 2]? = some (.cells (celC cy) 35 (0, 0)))) [9, 10] (by kernel_rfl) (by exact HKS.out _ HW.out) (fun hHeld => ?_)
   refine tyL 0 46 (hy := yieldsIf_load_row (by rfl) 35 _ rfl w.heap.size rfl (celC xa) 35 (0, 0) _ (fun w hw => hw.1) Tryz.underlying35 rfl (by exact val_size)) (h := ?_)
   refine tyL 1 47 (hy := yieldsIf_load_row (by rfl) 107 _ rfl C0 rfl #[dc, .int .i64 ((nodL zs : Nat) : Int)] 107 (0, 0) _ (fun w hw => hw.2.1) Tryz.underlying107 rfl (by exact tally_size)) (h := ?_)
   (try simp only [pq])
   refine tyL 2 48 (hy := yieldsIf_load_row (by rfl) 35 _ rfl (w.heap.size + 2) rfl (celC cy) 35 (0, 0) _ (fun w hw => hw.2.2) Tryz.underlying35 rfl (by exact val_size)) (h := ?_)
   refine tkL 5 51 (h := ?_)
   (try simp only [pq])
   refine tkO 3 (some 49) (h := fun K hK => ?_)
   go_simp
   go_at_call 70
   (with_reducible refine (HTY.out _ (by exact HLW.out.trans (HW.out.mono HLW.out.size))).mono ?_)
   rintro r wA ⟨dt, rfl, hd, hb⟩
   have HDT := Lib.hid hd
   replace HW := Lib.hid (HW.out.trans (hb.mono HW.out.size))
   clear hb hd
   dsimp only
   refine hK.out _ _ (by exact HKS.out _ HW.out) (fun hHeld => ?_)
   clear hK K
   (try simp only [pq])
   refine tkO 4 (some 50) (h := fun K hK => ?_)
   go_simp
   go_at_call 69
   (with_reducible refine (HPL.out _ dc dt (by exact (HDC.out.later HW.out).weak fun _ _ => trivial) (by exact HDT.out.weak fun _ _ => trivial)).mono ?_)
   rintro r wB ⟨dn, rfl, hd, hb⟩
   have HDN := Lib.hid hd
   have HSW := Lib.hid HW.out.size
   replace HW := Lib.hid (HW.out.trans (hb.mono HW.out.size))
   clear hb hd
   dsimp only
   refine hK.out _ _ (by exact HKS.out _ HW.out) (fun hHeld => ?_)
   clear hK K
   (try simp only [pq])
   refine tkO 6 (some 52) (h := fun K hK => ?_)
   have HWC : Hid (w1.heap.size ≤ wB.heap.size) := Nat.le_trans HLW.out.size HW.out.size
   go_simp
   go_at_call 68
   (with_reducible refine (HCH.out _ dn (by exact HLW.out.trans (HW.out.mono HLW.out.size)) (by exact HDN.out.weak fun g hg => Nat.le_trans (Nat.le_trans HLW.out.size HSW.out) hg)).mono ?_)
   rintro r wC ⟨y, rfl, hy, hb⟩
   have HYY := Lib.hid hy
   replace HW := Lib.hid (HW.out.trans (hb.mono HW.out.size))
   clear hb hy
   dsimp only
   refine hK.out _ _ (by exact HKS.out _ HW.out) (fun hHeld => ?_)
   clear hK K
   (try simp only [pq])
   refine tkL 7 53 (h := ?_)
   refine tkL 8 54 (h := ?_)
   (try simp only [pq])
   refine tkU 9 none (h := fun K hK => ?_)
   refine st_agg_wp 35 _ _ rfl (w.heap.size + 3) (celC y) rfl rfl 35 _ ((HW.out.block _ (by exact (Array.getElem?_eq_some_iff.1 HR9.out).1)).trans HR9.out) val_size rfl (celC_one y) ?_
   intro w8 h8 k8
   refine hK.out _ _ ?_
   clear hK K
   (try simp only [pq])
   refine tkU 10 (some 7) (h := fun K hK => ?_)
   go_simp
   refine hK.out _ _ ?_
   clear hK K
   (try simp only [pq])
   refine wpAnyT_done (by kernel_rfl) ?_ _
   clear hHeld
   go_wp2_with fail
   have hs1 := HS1.out
   have hl := HLW.out.size
   have hw5 := HW.out.size
   refine bodyPost_ret (results_cell_row1 rfl _ _ (w.heap.size + 3) 35 _ (0, 0) _ rfl h8 Tryz.underlying35 rfl val_size) rfl ⟨y, rfl, (HYY.out.imp (Kq.only k8 ?_) ?_), (HB1.out.trans ((HLW.out.trans (HW.out.mono HLW.out.size)).mono HB1.out.size)).trans (k8.below (by omega))⟩
   ·exact fun h => by have := HWC.out; rcases h with (h | h) | h <;> omega
   ·exact fun g h _ => by have := HWC.out; rcases h with (h | h) | h <;> first | exact .inl h.1 | exact .inr (by omega)
 ·have e : setT a s i u yt = (nullT, fitT a.k s) := by unfold setT; rw [if_pos hf]
  rw [e]
  rcases fit_in a.k s with e0 | e0 | e0
  ·exact absurd e0 hf
  all_goals
   rw [e0] at HBE ⊢
   clear hx1 hy1 hz1 hr1 hs1 hb1 ha hva hyb hvy hf e e0 hT hu HKA
   go_enter Tryz.func35, Tryz.ntmps35
   go_upto_region 1 with fail
   clear hw1
   go_wp2_with (first
    | (refine ld_if rfl 35 _ rfl w.heap.size rfl 35 _ _ _ HX1.out Tryz.underlying35 rfl val_size ?_)
    | (refine ld_if rfl 44 _ rfl (w.heap.size + 1) rfl 44 _ _ _ HY1.out Tryz.underlying44 rfl step_size ?_)
    | (go_at_call 51; (with_reducible refine HBE.out.mono ?_); rintro r w2 ⟨rfl, hb2⟩; have HB2 := Lib.hid hb2; have HX2 := Lib.hid ((hb2.block _ (Array.getElem?_eq_some_iff.1 HX1.out).1).trans HX1.out); have HY2 := Lib.hid ((hb2.block _ (Array.getElem?_eq_some_iff.1 HY1.out).1).trans HY1.out); have HZ2 := Lib.hid ((hb2.block _ (Array.getElem?_eq_some_iff.1 HZ1.out).1).trans HZ1.out); have HR2 := Lib.hid ((hb2.block _ (Array.getElem?_eq_some_iff.1 HR1.out).1).trans HR1.out); clear hb2)
    | (refine st_agg rfl 35 _ _ rfl (w.heap.size + 3) #[.int .i64 0, .int .i64 0, .string ⟨#[]⟩, .pointer none] rfl rfl 35 _ HR2.out val_size rfl (by simp [Value.oneCell']) ?_; intro w5 h5 k5))
   exact bodyPost_ret (results_cell_row1 rfl _ _ (w.heap.size + 3) 35 _ (0, 0) _ rfl h5 Tryz.underlying35 rfl val_size) rfl ⟨zeroV, rfl, vAt_null _ _, (HB1.out.trans (HB2.out.mono HB1.out.size)).trans (k5.below (by omega))⟩
end Go.Proofs.YtpodmgihlomglaaGreatDoor
