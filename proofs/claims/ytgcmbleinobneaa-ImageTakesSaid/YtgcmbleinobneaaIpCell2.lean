/- DERIVED. Contracts of the program's reader: cells, where there is a number. By an AI agent (written by gen-ipcells.py). -/
import Derived.Test.YtgcmbleinobneaaIpCells
namespace Go.Proofs.Ytgcmbleinobneaa.Ip
open Go.ChangeShapes Go.WideShapes Go.ChangeAt Go.RowKit Args ImRef
set_option linter.unusedVariables false
theorem conv_nil (w : World) : (convert 28 9 (.slice none 0 0)).run Try.prog w = .ok (.string ByteArray.empty) w := run_convert_bytes_nil w 28 5 Try.underlying28 Try.underlying5 0 0 9 Try.underlying9
theorem conv_pc {n₀ : Nat} {w : World} {A : Option Addr} {c : Nat} {ps : List Int} (h : Pc n₀ w A c ps) (k : Nat) (hk : ps.length = k) : (convert 28 9 (.slice A k c)).run Try.prog w = .ok (.string (strOfNums ps)) w :=
  run_string_of 28 5 Try.underlying28 Try.underlying5 A k c ps hk h.lies 9 Try.underlying9
/-- What cells comes to where there is a number. -/
def CellsR (N : Nat) (Y : List Int) (L : List TI) (ys : List Int) (e : Int) : Prop := Came N Y N L ys e
def Round (n₀ r N : Nat) (Y : List Int) (w wr : World) (k : Nat) (A' : Option Addr) (c' : Nat) (L : List TI) : Prop :=
  OwnC w.heap.size wr A' c' L ∧ (∀ x ∈ L, x.s.size ≤ 255) ∧ ∃ ys' e', Rdr n₀ wr r ys' e' ∧ Upd (· = r) w wr ∧ Came N Y k L ys' e'
theorem came_e {N k : Nat} {Y ys : List Int} {L : List TI} {e : Int} (h : Came N Y k L ys e) : failE e 3 = 3 := by
  rcases h with ⟨rfl, _⟩ | ⟨rfl, _⟩ <;> rfl
set_option maxRecDepth 100000 in
set_option maxHeartbeats 16000000 in
theorem cells_yes (n₀ r : Nat) (ys : List Int) (w : World) (hR : Rdr n₀ w r ys 0) (hl : 1 ≤ ys.length) (n : Int) (hn : n = numL (ys.take 1)) :
    Calls Try.prog 30 #[.pointer (some ⟨r, 0, none⟩)] w (CellsP n₀ w r (CellsR n.toNat (ys.drop 1))) := by
  obtain ⟨i0, hi, hz0, hz1, hz2⟩ := info_parts infoC
  have HI := Lib.hid hi; have HZ0 := Lib.hid hz0; have HZ1 := Lib.hid hz1; have HZ2 := Lib.hid hz2
  obtain ⟨hby, hreach, hnr, hrl⟩ := hR.facts
  have hu0 := (Upd.refl (fun _ => False) w).alloc (.cells #[] 41)
  have HC := Lib.hid (cut1 n₀ r ys _ (hR.upd hu0 (fun _ h => h.elim) (fun h => h)) hl)
  have HO := Lib.hid (own_empty w (Nat.le_refl w.heap.size) 41 2)
  have hl1 : (ys.take 1).length = 1 := by rw [List.length_take]; omega
  have hbd := numL_bd (ys.take 1) (hby.take 1)
  rw [hl1, ← hn] at hbd
  obtain ⟨q0, q1⟩ := hbd
  have q2 : n < 256 := q1
  have HL := Lib.hid hl1; have HN := Lib.hid hn
  obtain ⟨Y, hY⟩ : ∃ Y, Y = ys.drop 1 := ⟨_, rfl⟩
  obtain ⟨N, hNN⟩ : ∃ N, N = n.toNat := ⟨_, rfl⟩
  rw [← hY, ← hNN]
  have hNn : n = (N : Int) := by omega
  have hN255 : N ≤ 255 := by omega
  have HY := Lib.hid hY; have HNn := Lib.hid hNn
  clear hR hi hz0 hz1 hz2 hu0 hl1 q1 hn hby hY hNN hNn
  go_enter Try.func30, Try.ntmps30
  go_wp2_with fail
  refine HC.out.mono ?_
  rintro en w1 ⟨A1, rfl, h0, h1, h2⟩
  have hn0 := number_of h0 (by rw [HL.out]; decide) 1 HL.out.symm
  rw [← HN.out, HNn.out] at hn0
  rw [← HY.out] at h1
  have HNU := Lib.hid hn0; have HR1 := Lib.hid h1; have HU1 := Lib.hid h2
  clear h0 h1 h2 hn0 q0 q2
  go_wp2_with fail
  refine HNU.out.mono ?_
  rintro en w' ⟨rfl, rfl⟩
  go_wp2_with fail
  go_loopw [3, 9] (fun vl vi wr => ∃ (k : Nat) (A' : Option Addr) (c' : Nat) (L : List TI), k ≤ N ∧ Hid (L.length = k) ∧ vl = .slice A' L.length c' ∧ vi = .int .u32 k ∧ Hid (Round n₀ r N Y w wr k A' c' L)) (fun _ vi _ => N - (intOf vi).toNat)
  case atStart => exact ⟨0, _, _, [], by omega, Lib.hid rfl, rfl, rfl, Lib.hid ⟨own_upd HO.out HU1.out fun g h1 h2 => by omega, nofun, Y, 0, HR1.out, ((Upd.refl (· = r) w).alloc _).trans HU1.out, .inl ⟨rfl, by rw [Nat.sub_zero]; cases rdCells N Y <;> simp⟩⟩⟩
  case round =>
    obtain ⟨k, A', c', L, hk, HLK, rfl, rfl, HH⟩ := hrel
    by_cases hlt : k < N
    · obtain ⟨ho, hss, ys', e', hr, hu, hc⟩ := id HH.out
      have hLl : L.length ≤ 255 := by have := HLK.out; omega
      obtain ⟨hby', _, _, _⟩ := hr.facts
      have hur := hu.size
      by_cases hb1 : e' ≠ 0 ∨ (ys'.length : Int) < 1
      · have hc1 := cut_no n₀ r ys' e' 1 wr hr hb1
        rw [came_e hc] at hc1
        have HC1 := Lib.hid hc1
        have HCA0 := Lib.hid (came_no hc hlt (fun he => by
          unfold rdCell
          rw [rdNum_no 1 ys' (by rcases hb1 with h | h
                                 · exact absurd he h
                                 · omega)]; rfl) (L ++ [⟨ByteArray.empty, 0⟩]) ys')
        have HOC := Lib.hid ho; have HUW := Lib.hid hu; have HSL : Hid (ByteArray.empty.size ≤ 255) := Lib.hid (by decide)
        clear hc1 hc hr ho hu hb1 hby'
        go_wp2_with fail
        refine HC1.out.mono ?_
        rintro en w1 ⟨rfl, h1, h2⟩
        have HC2 := Lib.hid (cut_no n₀ r ys' 3 0 w1 h1 (.inl (by decide)))
        have HU1' := Lib.hid h2
        clear h1 h2
        go_wp2_with fail
        refine (number_none _).mono ?_
        rintro en w' ⟨rfl, rfl⟩
        go_wp2_with fail
        refine HC2.out.mono ?_
        rintro en w3 ⟨rfl, h1, h2⟩
        have hkc := conv_nil w3
        have HR3 := Lib.hid h1; have HU3 := Lib.hid (HU1'.out.trans h2)
        clear h1 h2
        have hbn := ((Below.refl w3.heap.size w3).alloc (Nat.le_refl _) (.cells #[.string ByteArray.empty, .int .i64 0] 41)).alloc (by simp) (.cells #[.pointer (some ⟨w3.heap.size, 1, none⟩)] 58)
        have HNO := Lib.hid (numbers_no n₀ r _ 3 (some ⟨w3.heap.size + 1, 0, none⟩) 1 1 _ (HR3.out.below hbn) (by decide) (.inl (by decide)))
        have hsz3 := HU3.out.size
        clear hbn
        go_wp2_with fail
        refine HNO.out.mono ?_
        rintro en w5 ⟨⟨v, rfl⟩, h1, h2⟩
        have hr5 : Rdr n₀ w5 r _ 3 := h1
        have hb5 := ((Blk.new w3 41 #[.string ByteArray.empty, .int .i64 0]).alloc (.cells #[.pointer (some ⟨w3.heap.size, 1, none⟩)] 58)).upd h2 (by omega)
        have hu35 := ((HU3.out.alloc (.cells #[.string ByteArray.empty, .int .i64 0] 41)).alloc (.cells #[.pointer (some ⟨w3.heap.size, 1, none⟩)] 58)).trans h2
        have ho5 := HOC.out.upd hu35 (fun g hg _ => by omega)
        have hu5 := HUW.out.trans hu35
        have hca := HCA0.out
        clear h1 h2 hu35
        have HCB := Lib.hid (show Blk w5 w3.heap.size 41 #[.string ByteArray.empty, .int .i64 0] from hb5)
        have c0 : w5.cell? ⟨w3.heap.size, 0, none⟩ = some (.string ByteArray.empty) := HCB.out.cell 0
        have c1 : w5.cell? ⟨w3.heap.size, 1, none⟩ = some (.int .i64 0) := HCB.out.cell 1
        have HOW := Lib.hid (show (w5.alloc (.cells #[.string ByteArray.empty, .int .i64 0] 41)).ownsRow w.heap.size 41 2 (.slice A' L.length c') L.length (L.flatMap TI.cells) from World.ownsRow.alloc ho5 _)
        have HOB := Lib.hid (show ∀ q, (Value.slice A' L.length c').ownBlock = some q → w.heap.size ≤ q from fun q hq => (World.ownsRow.lt (show w5.ownsRow w.heap.size 41 2 (.slice A' L.length c') L.length (L.flatMap TI.cells) from ho5) q hq).1)
        have HLI := Lib.hid (show Lies (w5.alloc (.cells #[.string ByteArray.empty, .int .i64 0] 41)) (some ⟨w5.heap.size, 0, none⟩) [.string ByteArray.empty, .int .i64 0] from fun j u hj => ⟨_, rfl, by
          rw [Args.add_plain, Nat.zero_add, World.cell?_alloc_at _ _ _ _ rfl]
          simpa using hj⟩)
        have HR5 := Lib.hid hr5; have HU5 := Lib.hid hu5; have HCA := Lib.hid hca
        have hsz5 := hu5.size
        have hbs : w.heap.size ≤ (w5.alloc (.cells #[.string ByteArray.empty, .int .i64 0] 41)).heap.size := by simp; omega
        have HBS := Lib.hid hbs
        clear hb5 ho5 hr5 hu5 hca hbs
        go_wp2_with (at_builtin; refine wpList_fresh rfl _ _ 23 rfl w.heap.size 41 i0 (.agg #[.string ⟨#[]⟩, .int .i64 0]) 2 24 Try.underlying23 HI.out HZ0.out HZ1.out HZ2.out rfl (by decide) _ L.length _ rfl HOW.out (some ⟨w5.heap.size, 0, none⟩) 1 1 [.string ByteArray.empty, .int .i64 0] rfl rfl HLI.out (by simp [Value.oneCell']) (by unfold maxLen; omega) (by omega) HBS.out ?_; intro A6 c6 w6 h2 h3 h4 h5; have H4 := Lib.hid h4; have H5 := Lib.hid h5; clear h2 h3 h4 h5)
        go_roundw
        case rel =>
          have ha := (((Upd.refl (fun g => (Value.slice A' L.length c').ownBlock = some g) w5).alloc (.cells #[.string ByteArray.empty, .int .i64 0] 41)).grown H5.out fun g hg _ => hg)
          refine ⟨k + 1, A6, c6, L ++ [⟨ByteArray.empty, 0⟩], by omega, Lib.hid (by simp [HLK.out]), ?_, by go_num, Lib.hid ⟨?_, ?_, _, _, HR5.out.upd ha (fun g hg => by have := HOB.out g hg; omega) (fun hg => by have := HOB.out r hg; omega), ?_, HCA.out⟩⟩
          · rw [List.length_append]; rfl
          · unfold OwnC
            rw [List.length_append, List.flatMap_append]
            exact H4.out
          · intro x hx
            rcases List.mem_append.1 hx with hx | hx
            · exact HH.out.2.1 x hx
            · simp at hx; subst hx; exact HSL.out
          · exact (HU5.out.alloc _).grown H5.out fun g hg hl => by have := HOB.out g hg; omega
        case measure => simp [intOf]; omega
      · have he0 : e' = 0 := Decidable.not_not.1 fun h => hb1 (.inl h)
        have hl1 : 1 ≤ ys'.length := by
          have : ¬ ((ys'.length : Int) < 1) := fun h => hb1 (.inr h)
          omega
        subst he0
        obtain ⟨q, hq⟩ : ∃ q, q = numL (ys'.take 1) := ⟨_, rfl⟩
        have hqb := numL_bd (ys'.take 1) (hby'.take 1)
        rw [← hq, show (ys'.take 1).length = 1 by rw [List.length_take]; omega] at hqb
        have q0 : 0 ≤ q := hqb.1
        have q1 : q < 256 := hqb.2
        have HQ := Lib.hid hq
        clear hq hqb hb1
        by_cases hb2 : ((ys'.drop 1).length : Int) < q
        · have HCA0 := Lib.hid (came_no hc hlt (fun _ => by
            rw [rdCell_at ys' q HQ.out.symm hl1]
            unfold rdName
            rw [if_pos (by omega)]; rfl) (L ++ [⟨ByteArray.empty, 0⟩]) (ys'.drop 1))
          have HOC := Lib.hid ho; have HUW := Lib.hid hu; have HSL : Hid (ByteArray.empty.size ≤ 255) := Lib.hid (by decide)
          clear hc ho hu
          have HC1 := Lib.hid (cut1 n₀ r ys' wr hr hl1)
          have hlp : (ys'.take 1).length = 1 := by rw [List.length_take]; omega
          have HLP := Lib.hid hlp
          clear hr hlp hby'
          go_wp2_with fail
          refine HC1.out.mono ?_
          rintro en w1 ⟨A1', rfl, h0, h1, h2⟩
          have hn1 := number_of h0 (by rw [HLP.out]; decide) 1 HLP.out.symm
          rw [← HQ.out] at hn1
          have HN1 := Lib.hid hn1
          have HC2 := Lib.hid (cut_no n₀ r (ys'.drop 1) 0 q w1 h1 (.inr hb2))
          have HU1' := Lib.hid h2
          clear h0 h1 h2 hn1 hb2
          go_wp2_with fail
          refine HN1.out.mono ?_
          rintro en w' ⟨rfl, rfl⟩
          go_wp2_with fail
          refine HC2.out.mono ?_
          rintro en w3 ⟨rfl, h1, h2⟩
          have hkc := conv_nil w3
          have HR3 := Lib.hid h1; have HU3 := Lib.hid (HU1'.out.trans h2)
          clear h1 h2
          have hbn := ((Below.refl w3.heap.size w3).alloc (Nat.le_refl _) (.cells #[.string ByteArray.empty, .int .i64 0] 41)).alloc (by simp) (.cells #[.pointer (some ⟨w3.heap.size, 1, none⟩)] 58)
          have HNO := Lib.hid (numbers_no n₀ r _ 3 (some ⟨w3.heap.size + 1, 0, none⟩) 1 1 _ (HR3.out.below hbn) (by decide) (.inl (by decide)))
          have hsz3 := HU3.out.size
          clear hbn
          go_wp2_with fail
          refine HNO.out.mono ?_
          rintro en w5 ⟨⟨v, rfl⟩, h1, h2⟩
          have hr5 : Rdr n₀ w5 r _ 3 := h1
          have hb5 := ((Blk.new w3 41 #[.string ByteArray.empty, .int .i64 0]).alloc (.cells #[.pointer (some ⟨w3.heap.size, 1, none⟩)] 58)).upd h2 (by omega)
          have hu35 := ((HU3.out.alloc (.cells #[.string ByteArray.empty, .int .i64 0] 41)).alloc (.cells #[.pointer (some ⟨w3.heap.size, 1, none⟩)] 58)).trans h2
          have ho5 := HOC.out.upd hu35 (fun g hg _ => by omega)
          have hu5 := HUW.out.trans hu35
          have hca := HCA0.out
          clear h1 h2 hu35
          have HCB := Lib.hid (show Blk w5 w3.heap.size 41 #[.string ByteArray.empty, .int .i64 0] from hb5)
          have c0 : w5.cell? ⟨w3.heap.size, 0, none⟩ = some (.string ByteArray.empty) := HCB.out.cell 0
          have c1 : w5.cell? ⟨w3.heap.size, 1, none⟩ = some (.int .i64 0) := HCB.out.cell 1
          have HOW := Lib.hid (show (w5.alloc (.cells #[.string ByteArray.empty, .int .i64 0] 41)).ownsRow w.heap.size 41 2 (.slice A' L.length c') L.length (L.flatMap TI.cells) from World.ownsRow.alloc ho5 _)
          have HOB := Lib.hid (show ∀ q, (Value.slice A' L.length c').ownBlock = some q → w.heap.size ≤ q from fun q hq => (World.ownsRow.lt (show w5.ownsRow w.heap.size 41 2 (.slice A' L.length c') L.length (L.flatMap TI.cells) from ho5) q hq).1)
          have HLI := Lib.hid (show Lies (w5.alloc (.cells #[.string ByteArray.empty, .int .i64 0] 41)) (some ⟨w5.heap.size, 0, none⟩) [.string ByteArray.empty, .int .i64 0] from fun j u hj => ⟨_, rfl, by
            rw [Args.add_plain, Nat.zero_add, World.cell?_alloc_at _ _ _ _ rfl]
            simpa using hj⟩)
          have HR5 := Lib.hid hr5; have HU5 := Lib.hid hu5; have HCA := Lib.hid hca
          have hsz5 := hu5.size
          have hbs : w.heap.size ≤ (w5.alloc (.cells #[.string ByteArray.empty, .int .i64 0] 41)).heap.size := by simp; omega
          have HBS := Lib.hid hbs
          clear hb5 ho5 hr5 hu5 hca hbs
          go_wp2_with (at_builtin; refine wpList_fresh rfl _ _ 23 rfl w.heap.size 41 i0 (.agg #[.string ⟨#[]⟩, .int .i64 0]) 2 24 Try.underlying23 HI.out HZ0.out HZ1.out HZ2.out rfl (by decide) _ L.length _ rfl HOW.out (some ⟨w5.heap.size, 0, none⟩) 1 1 [.string ByteArray.empty, .int .i64 0] rfl rfl HLI.out (by simp [Value.oneCell']) (by unfold maxLen; omega) (by omega) HBS.out ?_; intro A6 c6 w6 h2 h3 h4 h5; have H4 := Lib.hid h4; have H5 := Lib.hid h5; clear h2 h3 h4 h5)
          go_roundw
          case rel =>
            have ha := (((Upd.refl (fun g => (Value.slice A' L.length c').ownBlock = some g) w5).alloc (.cells #[.string ByteArray.empty, .int .i64 0] 41)).grown H5.out fun g hg _ => hg)
            refine ⟨k + 1, A6, c6, L ++ [⟨ByteArray.empty, 0⟩], by omega, Lib.hid (by simp [HLK.out]), ?_, by go_num, Lib.hid ⟨?_, ?_, _, _, HR5.out.upd ha (fun g hg => by have := HOB.out g hg; omega) (fun hg => by have := HOB.out r hg; omega), ?_, HCA.out⟩⟩
            · rw [List.length_append]; rfl
            · unfold OwnC
              rw [List.length_append, List.flatMap_append]
              exact H4.out
            · intro x hx
              rcases List.mem_append.1 hx with hx | hx
              · exact HH.out.2.1 x hx
              · simp at hx; subst hx; exact HSL.out
            · exact (HU5.out.alloc _).grown H5.out fun g hg hl => by have := HOB.out g hg; omega
          case measure => simp [intOf]; omega
        · have hb2' : q.toNat ≤ (ys'.drop 1).length := by omega
          clear hb2
          by_cases hb3 : ((ys'.drop 1).drop q.toNat).length < 4
          · have HCA0 := Lib.hid (came_no hc hlt (fun _ => by
              rw [rdCell_at ys' q HQ.out.symm hl1]
              unfold rdName
              rw [if_neg (by omega), Option.bind_some]
              dsimp only
              rw [rdNum_no 4 _ (by omega)]; rfl) (L ++ [⟨strOfNums ((ys'.drop 1).take q.toNat), 0⟩]) ((ys'.drop 1).drop q.toNat))
            have HOC := Lib.hid ho; have HUW := Lib.hid hu; have HSL : Hid ((strOfNums ((ys'.drop 1).take q.toNat)).size ≤ 255) := Lib.hid (by rw [strOfNums_size, List.length_take]; omega)
            clear hc ho hu
            have HC1 := Lib.hid (cut1 n₀ r ys' wr hr hl1)
            have hlp : (ys'.take 1).length = 1 := by rw [List.length_take]; omega
            have HLP := Lib.hid hlp
            clear hr hlp hby'
            go_wp2_with fail
            refine HC1.out.mono ?_
            rintro en w1 ⟨A1', rfl, h0, h1, h2⟩
            have hn1 := number_of h0 (by rw [HLP.out]; decide) 1 HLP.out.symm
            rw [← HQ.out] at hn1
            have HN1 := Lib.hid hn1
            have HC2 := Lib.hid (cutZ n₀ r (ys'.drop 1) w1 h1 q q.toNat (by omega) hb2')
            have HU1' := Lib.hid h2
            clear h0 h1 h2 hn1
            go_wp2_with fail
            refine HN1.out.mono ?_
            rintro en w' ⟨rfl, rfl⟩
            go_wp2_with fail
            refine HC2.out.mono ?_
            rintro en w3 ⟨A3, rfl, h0, h1, h2⟩
            have hkc := conv_pc h0 q.toNat (by rw [List.length_take]; omega)
            generalize strOfNums ((ys'.drop 1).take q.toNat) = s at *
            have HR3 := Lib.hid h1; have HU3 := Lib.hid (HU1'.out.trans h2)
            clear h0 h1 h2
            have hbn := ((Below.refl w3.heap.size w3).alloc (Nat.le_refl _) (.cells #[.string s, .int .i64 0] 41)).alloc (by simp) (.cells #[.pointer (some ⟨w3.heap.size, 1, none⟩)] 58)
            have HNO := Lib.hid (numbers_no n₀ r _ 0 (some ⟨w3.heap.size + 1, 0, none⟩) 1 1 _ (HR3.out.below hbn) (by decide) (.inr (by omega)))
            have hsz3 := HU3.out.size
            clear hbn
            go_wp2_with fail
            refine HNO.out.mono ?_
            rintro en w5 ⟨⟨v, rfl⟩, h1, h2⟩
            have hr5 : Rdr n₀ w5 r _ 3 := h1
            have hb5 := ((Blk.new w3 41 #[.string s, .int .i64 0]).alloc (.cells #[.pointer (some ⟨w3.heap.size, 1, none⟩)] 58)).upd h2 (by omega)
            have hu35 := ((HU3.out.alloc (.cells #[.string s, .int .i64 0] 41)).alloc (.cells #[.pointer (some ⟨w3.heap.size, 1, none⟩)] 58)).trans h2
            have ho5 := HOC.out.upd hu35 (fun g hg _ => by omega)
            have hu5 := HUW.out.trans hu35
            have hca := HCA0.out
            clear h1 h2 hu35
            have HCB := Lib.hid (show Blk w5 w3.heap.size 41 #[.string s, .int .i64 0] from hb5)
            have c0 : w5.cell? ⟨w3.heap.size, 0, none⟩ = some (.string s) := HCB.out.cell 0
            have c1 : w5.cell? ⟨w3.heap.size, 1, none⟩ = some (.int .i64 0) := HCB.out.cell 1
            have HOW := Lib.hid (show (w5.alloc (.cells #[.string s, .int .i64 0] 41)).ownsRow w.heap.size 41 2 (.slice A' L.length c') L.length (L.flatMap TI.cells) from World.ownsRow.alloc ho5 _)
            have HOB := Lib.hid (show ∀ q, (Value.slice A' L.length c').ownBlock = some q → w.heap.size ≤ q from fun q hq => (World.ownsRow.lt (show w5.ownsRow w.heap.size 41 2 (.slice A' L.length c') L.length (L.flatMap TI.cells) from ho5) q hq).1)
            have HLI := Lib.hid (show Lies (w5.alloc (.cells #[.string s, .int .i64 0] 41)) (some ⟨w5.heap.size, 0, none⟩) [.string s, .int .i64 0] from fun j u hj => ⟨_, rfl, by
              rw [Args.add_plain, Nat.zero_add, World.cell?_alloc_at _ _ _ _ rfl]
              simpa using hj⟩)
            have HR5 := Lib.hid hr5; have HU5 := Lib.hid hu5; have HCA := Lib.hid hca
            have hsz5 := hu5.size
            have hbs : w.heap.size ≤ (w5.alloc (.cells #[.string s, .int .i64 0] 41)).heap.size := by simp; omega
            have HBS := Lib.hid hbs
            clear hb5 ho5 hr5 hu5 hca hbs
            go_wp2_with (at_builtin; refine wpList_fresh rfl _ _ 23 rfl w.heap.size 41 i0 (.agg #[.string ⟨#[]⟩, .int .i64 0]) 2 24 Try.underlying23 HI.out HZ0.out HZ1.out HZ2.out rfl (by decide) _ L.length _ rfl HOW.out (some ⟨w5.heap.size, 0, none⟩) 1 1 [.string s, .int .i64 0] rfl rfl HLI.out (by simp [Value.oneCell']) (by unfold maxLen; omega) (by omega) HBS.out ?_; intro A6 c6 w6 h2 h3 h4 h5; have H4 := Lib.hid h4; have H5 := Lib.hid h5; clear h2 h3 h4 h5)
            go_roundw
            case rel =>
              have ha := (((Upd.refl (fun g => (Value.slice A' L.length c').ownBlock = some g) w5).alloc (.cells #[.string s, .int .i64 0] 41)).grown H5.out fun g hg _ => hg)
              refine ⟨k + 1, A6, c6, L ++ [⟨s, 0⟩], by omega, Lib.hid (by simp [HLK.out]), ?_, by go_num, Lib.hid ⟨?_, ?_, _, _, HR5.out.upd ha (fun g hg => by have := HOB.out g hg; omega) (fun hg => by have := HOB.out r hg; omega), ?_, HCA.out⟩⟩
              · rw [List.length_append]; rfl
              · unfold OwnC
                rw [List.length_append, List.flatMap_append]
                exact H4.out
              · intro x hx
                rcases List.mem_append.1 hx with hx | hx
                · exact HH.out.2.1 x hx
                · simp at hx; subst hx; exact HSL.out
              · exact (HU5.out.alloc _).grown H5.out fun g hg hl => by have := HOB.out g hg; omega
            case measure => simp [intOf]; omega
          · have HCA0 := Lib.hid (came_yes hc hlt (show rdCell ys' = some (⟨strOfNums ((ys'.drop 1).take q.toNat), numL (((ys'.drop 1).drop q.toNat).take 4)⟩, ((ys'.drop 1).drop q.toNat).drop 4) by
              rw [rdCell_at ys' q HQ.out.symm hl1]
              unfold rdName
              rw [if_neg (by omega), Option.bind_some]
              dsimp only
              unfold rdNum
              rw [if_neg (by omega)]; rfl))
            have HOC := Lib.hid ho; have HUW := Lib.hid hu; have HSL : Hid ((strOfNums ((ys'.drop 1).take q.toNat)).size ≤ 255) := Lib.hid (by rw [strOfNums_size, List.length_take]; omega)
            clear hc ho hu
            have HC1 := Lib.hid (cut1 n₀ r ys' wr hr hl1)
            have hlp : (ys'.take 1).length = 1 := by rw [List.length_take]; omega
            have HLP := Lib.hid hlp
            clear hr hlp hby'
            go_wp2_with fail
            refine HC1.out.mono ?_
            rintro en w1 ⟨A1', rfl, h0, h1, h2⟩
            have hn1 := number_of h0 (by rw [HLP.out]; decide) 1 HLP.out.symm
            rw [← HQ.out] at hn1
            have HN1 := Lib.hid hn1
            have HC2 := Lib.hid (cutZ n₀ r (ys'.drop 1) w1 h1 q q.toNat (by omega) hb2')
            have HU1' := Lib.hid h2
            clear h0 h1 h2 hn1
            go_wp2_with fail
            refine HN1.out.mono ?_
            rintro en w' ⟨rfl, rfl⟩
            go_wp2_with fail
            refine HC2.out.mono ?_
            rintro en w3 ⟨A3, rfl, h0, h1, h2⟩
            have hkc := conv_pc h0 q.toNat (by rw [List.length_take]; omega)
            generalize strOfNums ((ys'.drop 1).take q.toNat) = s at *
            have HR3 := Lib.hid h1; have HU3 := Lib.hid (HU1'.out.trans h2)
            clear h0 h1 h2
            have hsz3 := HU3.out.size
            have hrw := HUW.out.size
            have hbn := ((Below.refl w3.heap.size w3).alloc (Nat.le_refl _) (.cells #[.string s, .int .i64 0] 41)).alloc (by simp) (.cells #[.pointer (some ⟨w3.heap.size, 1, none⟩)] 58)
            have hnt := Blk.new (w3.alloc (.cells #[.string s, .int .i64 0] 41)) 58 #[.pointer (some ⟨w3.heap.size, 1, none⟩)]
            rw [World.size_alloc] at hnt
            have HNO := Lib.hid (numbers_yes n₀ r w3.heap.size (w3.heap.size + 1) _ [1] 41 #[.string s, .int .i64 0] _ (HR3.out.below hbn) (by decide) (by show 4 * 1 ≤ _; omega) ((Blk.new w3 41 #[.string s, .int .i64 0]).alloc _) hnt (fun o ho => by simp at ho; subst ho; simp) (by omega) (by omega) (by omega) (by omega))
            clear hbn hnt
            go_wp2_with fail
            refine HNO.out.mono ?_
            rintro en w5 ⟨⟨v, rfl⟩, h1, hm, h2⟩
            have hr5 : Rdr n₀ w5 r (((ys'.drop 1).drop q.toNat).drop 4) 0 := h1
            have hb5 : Blk w5 w3.heap.size 41 #[.string s, .int .i64 (numL (((ys'.drop 1).drop q.toNat).take 4))] := by
              rw [← pcn_first]; exact hm
            have hu35 := ((HU3.out.alloc (.cells #[.string s, .int .i64 0] 41)).alloc (.cells #[.pointer (some ⟨w3.heap.size, 1, none⟩)] 58) |>.mono (fun g h => Or.inl h : ∀ g, g = r → g = r ∨ g = w3.heap.size)).trans h2
            have ho5 := HOC.out.upd (hu35.fresh (Y := (· = r)) fun g hg hl => hg.elim id fun h => by omega) (fun g hg _ => by omega)
            have hu5 := (HUW.out.mono (fun g h => Or.inl h : ∀ g, g = r → g = r ∨ g = w3.heap.size)).trans hu35 |>.fresh (Y := (· = r)) fun g hg hl => hg.elim id fun h => by omega
            have hca := HCA0.out
            clear h1 h2 hm hu35
            generalize numL (((ys'.drop 1).drop q.toNat).take 4) = m at *
            have HCB := Lib.hid (show Blk w5 w3.heap.size 41 #[.string s, .int .i64 m] from hb5)
            have c0 : w5.cell? ⟨w3.heap.size, 0, none⟩ = some (.string s) := HCB.out.cell 0
            have c1 : w5.cell? ⟨w3.heap.size, 1, none⟩ = some (.int .i64 m) := HCB.out.cell 1
            have HOW := Lib.hid (show (w5.alloc (.cells #[.string s, .int .i64 m] 41)).ownsRow w.heap.size 41 2 (.slice A' L.length c') L.length (L.flatMap TI.cells) from World.ownsRow.alloc ho5 _)
            have HOB := Lib.hid (show ∀ q, (Value.slice A' L.length c').ownBlock = some q → w.heap.size ≤ q from fun q hq => (World.ownsRow.lt (show w5.ownsRow w.heap.size 41 2 (.slice A' L.length c') L.length (L.flatMap TI.cells) from ho5) q hq).1)
            have HLI := Lib.hid (show Lies (w5.alloc (.cells #[.string s, .int .i64 m] 41)) (some ⟨w5.heap.size, 0, none⟩) [.string s, .int .i64 m] from fun j u hj => ⟨_, rfl, by
              rw [Args.add_plain, Nat.zero_add, World.cell?_alloc_at _ _ _ _ rfl]
              simpa using hj⟩)
            have HR5 := Lib.hid hr5; have HU5 := Lib.hid hu5; have HCA := Lib.hid hca
            have hsz5 := hu5.size
            have hbs : w.heap.size ≤ (w5.alloc (.cells #[.string s, .int .i64 m] 41)).heap.size := by simp; omega
            have HBS := Lib.hid hbs
            clear hb5 ho5 hr5 hu5 hca hbs
            go_wp2_with (at_builtin; refine wpList_fresh rfl _ _ 23 rfl w.heap.size 41 i0 (.agg #[.string ⟨#[]⟩, .int .i64 0]) 2 24 Try.underlying23 HI.out HZ0.out HZ1.out HZ2.out rfl (by decide) _ L.length _ rfl HOW.out (some ⟨w5.heap.size, 0, none⟩) 1 1 [.string s, .int .i64 m] rfl rfl HLI.out (by simp [Value.oneCell']) (by unfold maxLen; omega) (by omega) HBS.out ?_; intro A6 c6 w6 h2 h3 h4 h5; have H4 := Lib.hid h4; have H5 := Lib.hid h5; clear h2 h3 h4 h5)
            go_roundw
            case rel =>
              have ha := (((Upd.refl (fun g => (Value.slice A' L.length c').ownBlock = some g) w5).alloc (.cells #[.string s, .int .i64 m] 41)).grown H5.out fun g hg _ => hg)
              refine ⟨k + 1, A6, c6, L ++ [⟨s, m⟩], by omega, Lib.hid (by simp [HLK.out]), ?_, by go_num, Lib.hid ⟨?_, ?_, _, _, HR5.out.upd ha (fun g hg => by have := HOB.out g hg; omega) (fun hg => by have := HOB.out r hg; omega), ?_, HCA.out⟩⟩
              · rw [List.length_append]; rfl
              · unfold OwnC
                rw [List.length_append, List.flatMap_append]
                exact H4.out
              · intro x hx
                rcases List.mem_append.1 hx with hx | hx
                · exact HH.out.2.1 x hx
                · simp at hx; subst hx; exact HSL.out
              · exact (HU5.out.alloc _).grown H5.out fun g hg hl => by have := HOB.out g hg; omega
            case measure => simp [intOf]; omega
    · have hkN : k = N := by omega
      obtain ⟨ho, hss, ys', e', hr, hu, hc⟩ := id HH.out
      rw [hkN] at hc
      have HLN := Lib.hid (HLK.out.trans hkN)
      have HA := Lib.hid ho; have HS := Lib.hid hss; have HR := Lib.hid hr; have HU := Lib.hid hu; have HC := Lib.hid hc
      clear ho hss hr hu hc hkN
      go_wp2_with fail
      go_ret
      exact ⟨A', c', L, ys', e', rfl, HA.out, by rw [HLN.out]; exact hN255, HS.out, HR.out, HU.out, HC.out⟩
end Go.Proofs.Ytgcmbleinobneaa.Ip
