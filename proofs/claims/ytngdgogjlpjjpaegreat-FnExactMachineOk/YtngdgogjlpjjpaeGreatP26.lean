import Derived.Deep.OwnRows
import Derived.Laws.CopyOwn
import Derived.Test.YtngdgogjlpjjpaeGreatP00
import Derived.Test.YtngdgogjlpjjpaeGreatP01
import Derived.Test.YtngdgogjlpjjpaeGreatP14
import Derived.Test.YtngdgogjlpjjpaeGreatP16
import Derived.Test.YtngdgogjlpjjpaeGreatP25
namespace Go.Proofs.YtngdgogjlpjjpaeGreat
open Go.RowKit Classical
set_option linter.unusedVariables false
set_option linter.unusedSimpArgs false
set_option maxRecDepth 100000
theorem only_trans {g : Nat} {a b c : World} (h : Only g a b) (k : Only g b c) : Only g a c := ⟨k.1.trans h.1, fun j hj => (k.2.1 j hj).trans (h.2.1 j hj), k.2.2.1.trans h.2.2.1, k.2.2.2.1.trans h.2.2.2.1, k.2.2.2.2.trans h.2.2.2.2⟩
theorem only_turn' {g : Nat} {w w' : World} (h : Only g w w') : Turn (fun j => j = g) w w' := ⟨h.2.2.1, h.2.2.2.1, h.2.2.2.2, by rw [h.1]; exact Nat.le_refl _, fun k hk hn => h.2.1 k hn⟩
def pour (zs : List Int) (k : Nat) (ws : List Int) : Nat → List Int
  | 0 => zs
  | i + 1 => put (pour zs k ws i) (k + 4 * i) (ws.getD i 0) 4
theorem pour_len (zs : List Int) (k : Nat) (ws : List Int) : ∀ i, (pour zs k ws i).length = zs.length
  | 0 => rfl
  | i + 1 => by rw [pour, put_len, pour_len zs k ws i]
set_option maxHeartbeats 2000000 in
theorem l5Pour_any (g n cap k : Nat) (a : Option Addr) (wn wc : Nat) (ws zs : List Int) (base : Nat) (w0 w : World) (h0 : IS w0 a wn wc ws) (hb : Below w0.heap.size w0 w) (hg : w0.heap.size ≤ g) (ho : OB w base (.slice (some ⟨g, 0, none⟩) n cap) zs) (hn : n ≤ 16384) (hk : k + 4 * wn ≤ n) (hw : ∀ i, i < wn → 0 ≤ ws.getD i 0 ∧ ws.getD i 0 ≤ 4294967295) :
    Calls Tryz.prog 82 #[.slice (some ⟨g, 0, none⟩) n cap, .int .i64 k, .slice a wn wc] w fun e w' => e = .returned (.tuple #[]) ∧ OB w' base (.slice (some ⟨g, 0, none⟩) n cap) (pour zs k ws wn) ∧ Only g w w' := by
  have HO := hide ho
  have HB := hide hb
  clear ho hb
  go_enter Tryz.func82, Tryz.ntmps82
  go_wp2
  go_loopw [6] (fun i wr => ∃ m : Nat, m ≤ wn ∧ i = .int .i64 m ∧ OB wr base (.slice (some ⟨g, 0, none⟩) n cap) (pour zs k ws m) ∧ Only g w wr) (fun i _ => wn - (intOf i).toNat)
  case atStart => exact ⟨0, Nat.zero_le _, rfl, HO.out, only_refl _ _⟩
  case round =>
    obtain ⟨m, hm, rfl, O, T⟩ := hrel
    by_cases hlt : m < wn
    · have hlt' : (m : Int) < (wn : Int) := by omega
      obtain ⟨b, off, rfl, hc⟩ := (h0.below (only_below HB.out T hg)).2.2.2.1 (by omega)
      have q := hc m hlt
      obtain ⟨v0, v1⟩ := hw m hlt
      have HP := hide (l1Put_any g n cap (k + 4 * m) 4 (ws.getD m 0) wr (ob_room O) hn (by omega) (by omega) (by omega) v0 v1)
      have HX := hide (And.intro (ob_put O (k + 4 * m) (ws.getD m 0) 4 (by omega)) (only_trans T (only_put g (k + 4 * m) (ws.getD m 0) wr 4)))
      have HE := hide (show pour zs k ws (m + 1) = put (pour zs k ws m) (k + 4 * m) (ws.getD m 0) 4 from rfl)
      have hkm : ((k + 4 * m : Nat) : Int) = (k : Int) + 4 * (m : Int) := by omega
      rw [hkm] at HP
      clear O T hc
      generalize ws.getD m 0 = v at *
      go_wp2_with fail
      refine HP.out.mono ?_
      rintro e w1 ⟨rfl, rfl⟩
      go_wp2
      go_roundw
      case rel => exact ⟨m + 1, by omega, by go_num, by rw [HE.out]; exact HX.out.1, HX.out.2⟩
      case measure => simp [intOf]; omega
    · have e : Hid (m = wn) := by show m = wn; omega
      have HX := hide (And.intro O T)
      clear O T
      go_wp2
      go_end0
      exact ⟨rfl, by have := HX.out.1; rw [e.out] at this; exact this, HX.out.2⟩
set_option maxHeartbeats 2000000 in
theorem putWords_any (g n cap k m c : Nat) (a : Option Addr) (wn wc : Nat) (ws zs : List Int) (base : Nat) (w0 w : World) (h0 : IS w0 a wn wc ws) (hb : Below w0.heap.size w0 w) (hg : w0.heap.size ≤ g) (ho : OB w base (.slice (some ⟨g, 0, none⟩) n cap) zs) (hn : n ≤ 16384) (hk : k + 4 * wn ≤ n) (hm : 4 * wn ≤ m) (hc : m ≤ c) (hc2 : c ≤ 16384) :
    Calls Tryz.prog 178 #[.slice (some ⟨g, k, none⟩) m c, .slice a wn wc] w fun e w' => e = .returned (.tuple #[]) ∧ OB w' base (.slice (some ⟨g, 0, none⟩) n cap) (pour zs k ws wn) ∧ Only g w w' := by
  have HO := hide ho
  have HB := hide hb
  clear ho hb
  go_enter Tryz.func178, Tryz.ntmps178
  go_wp2
  go_loopw [8] (fun i wr => ∃ j : Nat, j ≤ wn ∧ i = .int .i64 j ∧ OB wr base (.slice (some ⟨g, 0, none⟩) n cap) (pour zs k ws j) ∧ Only g w wr) (fun i _ => wn - (intOf i).toNat)
  case atStart => exact ⟨0, Nat.zero_le _, rfl, HO.out, only_refl _ _⟩
  case round =>
    obtain ⟨j, hj, rfl, O, T⟩ := hrel
    by_cases hlt : j < wn
    · have hlt' : (j : Int) < (wn : Int) := by omega
      obtain ⟨b, off, rfl, hcc⟩ := (h0.below (only_below HB.out T hg)).2.2.2.1 (by omega)
      have q := hcc j hlt
      have wv : -9223372036854775808 ≤ ws.getD j 0 ∧ ws.getD j 0 ≤ 9223372036854775807 := h0.2.2.1 _ (by have := h0.1; simp [List.getD_eq_getElem?_getD, show j < ws.length by omega])
      have HP := hide (putBytes_4 g (m - 4 * j) (c - 4 * j) (k + 4 * j) (ws.getD j 0) wr (ob_room2 O (by omega)) (by omega) wv)
      have HX := hide (And.intro (ob_putD4 O (k + 4 * j) (ws.getD j 0) (by omega)) (only_trans T (only_putD4 g (k + 4 * j) (ws.getD j 0) wr)))
      have HE := hide (show pour zs k ws (j + 1) = put (pour zs k ws j) (k + 4 * j) (ws.getD j 0) 4 from rfl)
      have t0 : (0 : Int) ≤ 4 * (j : Int) := by omega
      have t1 : 4 * (j : Int) ≤ (m : Int) := by omega
      have t2 : 4 * (j : Int) < (c : Int) := by omega
      have t3 : (4 * (j : Int)).toNat = 4 * j := by omega
      clear O T hcc wv
      generalize ws.getD j 0 = v at *
      go_wp2_with fail
      refine HP.out.mono ?_
      rintro e w1 ⟨rfl, rfl⟩
      go_wp2
      go_roundw
      case rel => exact ⟨j + 1, by omega, by go_num, by rw [HE.out]; exact HX.out.1, HX.out.2⟩
      case measure => simp [intOf]; omega
    · have e : Hid (j = wn) := by show j = wn; omega
      have HX := hide (And.intro O T)
      clear O T
      go_wp2
      go_end0
      exact ⟨rfl, by have := HX.out.1; rw [e.out] at this; exact this, HX.out.2⟩
def zby (n : Nat) : Array Value := ((List.replicate n (0:Int)).map (Value.int .u8)).toArray
theorem make8 (n : Nat) (hn : n ≤ 16384) (W : World) : (Instr.makeSlice 41 (.int .i64 (n : Int)) (.int .i64 (n : Int))).run Tryz.prog W = .ok (.slice (some ⟨W.heap.size, 0, none⟩) n n) (W.alloc (.cells (zby n) 5)) := by
  rw [run_make_row' 41 5 (.int .u8 0) 1 Tryz.underlying41 info8 rfl .i64 .i64 n (by omega) (by omega) W]
  have := made8 n
  rw [Nat.mul_one] at this
  unfold zby
  rw [← this]
  rfl
theorem zby_ob {W : World} {g base n : Nat} (h : Blk W g (zby n) 5) (hg : base ≤ g) (hn : n ≤ 16384) : OB W base (.slice (some ⟨g, 0, none⟩) n n) (List.replicate n 0) := by
  refine ⟨⟨by simp, .inr ⟨g, n, zby n, by simp, hg, h, by simp, by unfold maxLen; omega, by simp [zby], ?_⟩⟩, fun z hz => by have := List.eq_of_mem_replicate hz; omega⟩
  unfold zby
  simp only [List.toList_toArray, List.length_replicate, Nat.mul_one]
  exact List.take_of_length_le (by simp)
def pourB (zs : List Int) (P : PMod) (p : Pl) : Nat → List Int
  | 0 => pour zs p.text.toNat P.tz P.tz.length
  | j + 1 => pour (pourB zs P p j) (p.banks.getD j 0).toNat (P.bl.getD j []) (P.bl.getD j []).length
theorem pourB_len (zs : List Int) (P : PMod) (p : Pl) : ∀ j, (pourB zs P p j).length = zs.length
  | 0 => pour_len _ _ _ _
  | j + 1 => by rw [pourB, pour_len, pourB_len zs P p j]
def flB (ps : List PMod) (L : Lay) : Nat → List Int
  | 0 => List.replicate L.flash.toNat 0
  | i + 1 => pourB (flB ps L i) (ps.getD i zP) (L.places.getD i zPB.1) (ps.getD i zP).bl.length
def relB (zs : List Int) (f : Nat) (rz : List Int) (d : Int) : Nat → List Int
  | 0 => zs
  | j + 1 => put (relB zs f rz d j) (f + (rz.getD j 0).toNat) (low (((relB zs f rz d j).drop (f + (rz.getD j 0).toNat)).take 4) + d) 4
theorem relB_len (zs : List Int) (f : Nat) (rz : List Int) (d : Int) : ∀ j, (relB zs f rz d j).length = zs.length
  | 0 => rfl
  | j + 1 => by rw [relB, put_len, relB_len zs f rz d j]
def ovr (zs : List Int) (f : Nat) (ds : List Int) : List Int := zs.take f ++ (ds ++ zs.drop (f + ds.length))
theorem ovr_len (zs : List Int) (f : Nat) (ds : List Int) (h : f + ds.length ≤ zs.length) : (ovr zs f ds).length = zs.length := by simp [ovr]; omega
def raB (ps : List PMod) (L : Lay) : Nat → List Int
  | 0 => List.replicate L.ram.toNat 0
  | i + 1 => relB (ovr (raB ps L i) ((L.places.getD i zPB.1).data - 65536).toNat (ps.getD i zP).dz) ((L.places.getD i zPB.1).data - 65536).toNat (ps.getD i zP).rz (L.places.getD i zPB.1).data (ps.getD i zP).rz.length
theorem lkc_big {ps : List PMod} {s w k d : Int} (h : lkc ps s w k d = 0) : (lay ps s w k).flash ≤ 16384 ∧ (lay ps s w k).ram ≤ 16384 := by
  unfold lkc at h
  split at h
  · rename_i h1; exact absurd h h1
  split at h
  · exact absurd h (by decide)
  split at h
  · exact absurd h (by decide)
  split at h
  · exact absurd h (by decide)
  split at h
  · exact absurd h (by decide)
  rename_i h1 h2
  omega
theorem Fl_mono {ps : List PMod} (hv : vlds ps) : ∀ i j, i ≤ j → j ≤ ps.length → Fl ps i ≤ Fl ps j
  | i, 0, h, _ => by have : i = 0 := by omega
                     subst this; exact Int.le_refl _
  | i, j + 1, h, hj => by
    by_cases e : i = j + 1
    · subst e; exact Int.le_refl _
    · have h1 := Fl_mono hv i j (by omega) (by omega)
      have hm := hv j (by omega)
      have h2 := tsz_range hm
      have h3 := fsum_range hm _ (Nat.le_refl _)
      show Fl ps i ≤ Fl ps j + (tsz (ps.getD j zP) + fsum (ps.getD j zP) (ps.getD j zP).bl.length)
      omega
theorem Ra_mono {ps : List PMod} (hv : vlds ps) : ∀ i j, i ≤ j → j ≤ ps.length → Ra ps i ≤ Ra ps j
  | i, 0, h, _ => by have : i = 0 := by omega
                     subst this; exact Int.le_refl _
  | i, j + 1, h, hj => by
    by_cases e : i = j + 1
    · subst e; exact Int.le_refl _
    · have h1 := Ra_mono hv i j (by omega) (by omega)
      have h2 := dsz_range (hv j (by omega))
      show Ra ps i ≤ Ra ps j + dsz (ps.getD j zP)
      omega
theorem fsum_mono {P : PMod} (hv : mdoP P = 0) : ∀ i j, i ≤ j → j ≤ P.bl.length → fsum P i ≤ fsum P j
  | i, 0, h, _ => by have : i = 0 := by omega
                     subst this; exact Int.le_refl _
  | i, j + 1, h, hj => by
    by_cases e : i = j + 1
    · subst e; exact Int.le_refl _
    · have h1 := fsum_mono hv i j (by omega) (by omega)
      have h2 := rnd_range (x := 4 * ((P.bl.getD j []).length : Int)) (by omega)
      show fsum P i ≤ fsum P j + rnd (4 * ((P.bl.getD j []).length : Int))
      omega
structure Lkn (ps : List PMod) (L : Lay) : Prop where
  n : 1 ≤ ps.length ∧ ps.length ≤ 4
  v : vlds ps
  im : imps ps
  pl : L.places = (List.range ps.length).map (plc ps)
  fl : L.flash = Fl ps ps.length
  fr : 0 ≤ L.flash ∧ L.flash ≤ 16384
  ra : Ra ps ps.length ≤ L.ram
  rr : 0 ≤ L.ram ∧ L.ram ≤ 16384
  tg : L.targets = (List.range ps.length).map fun i => tgs ps (ps.getD i zP)
  st : L.stack = 65536 + Ra ps ps.length
theorem lok_kn {ps : List PMod} {L : Lay} (h : Lok ps L) : Lkn ps L := by
  obtain ⟨h1, h2⟩ := h
  have e : lay ps (L.slots.length : Int) (cfW L) (cfK L) = L := by unfold lkL at h2; rw [if_pos h1] at h2; exact h2
  obtain ⟨hc, n1, n2, hv, hi⟩ := lkc_facts h1
  obtain ⟨b1, b2⟩ := lkc_big h1
  unfold cfo at hc
  simp at hc
  have a1 := Fl_range hv ps.length (Nat.le_refl _)
  have a2 := Ra_range hv ps.length (Nat.le_refl _)
  have a3 : (0 : Int) ≤ ((L.slots.length : Int).toNat : Int) * rnd (4 * cfW L) := Int.mul_nonneg (by omega) (by have := rnd_range (x := 4 * cfW L) (by omega); omega)
  have e1 : L.flash = Fl ps ps.length := by rw [← e]; rfl
  have e2 : L.ram = Ra ps ps.length + cfK L + ((L.slots.length : Int).toNat : Int) * rnd (4 * cfW L) := by
    have := congrArg Lay.ram e
    rw [← this]; rfl
  rw [e] at b1 b2
  exact ⟨⟨n1, n2⟩, hv, hi, by rw [← e]; rfl, e1, ⟨by omega, b1⟩, by omega, ⟨by omega, b2⟩, by rw [← e]; rfl, by have := congrArg Lay.stack e; rw [← this]; rfl⟩
theorem Lkn.place {ps : List PMod} {L : Lay} (h : Lkn ps L) (i : Nat) (hi : i < ps.length) : L.places.getD i zPB.1 = plc ps i := by
  rw [h.pl]
  simp [List.getD_eq_getElem?_getD, hi]
theorem vld_rl {P : PMod} (h : mdoP P = 0) : ∀ j, j < P.rz.length → 0 ≤ P.rz.getD j 0 ∧ P.rz.getD j 0 + 4 ≤ (P.dz.length : Int) := by
  unfold mdoP mdo at h
  split at h
  · exact absurd h (by decide)
  split at h
  · exact absurd h (by decide)
  split at h
  · exact absurd h (by decide)
  split at h
  · exact absurd h (by decide)
  rename_i h1 h2 h3 h4
  intro j hj
  have h5 : rlo P.rz.length P.rz P.dz.length = true := by simpa using h4
  unfold rlo at h5
  rw [Bool.and_eq_true, List.all_eq_true] at h5
  have h6 := h5.2 j (by simpa using hj)
  unfold rlk at h6
  rw [decide_eq_true_eq] at h6
  omega
theorem getD_mem {α : Type} (l : List α) (i : Nat) (z : α) (h : i < l.length) : l.getD i z ∈ l := by simp [List.getD_eq_getElem?_getD, h]
theorem range_getD {α : Type} (f : Nat → α) (n j : Nat) (z : α) (h : j < n) : ((List.range n).map f).getD j z = f j := by simp [List.getD_eq_getElem?_getD, h]
theorem vld_wd {P : PMod} (h : mdoP P = 0) : (∀ i, i < P.tz.length → 0 ≤ P.tz.getD i 0 ∧ P.tz.getD i 0 ≤ 4294967295) ∧ ∀ k, k < P.bl.length → ∀ i, i < (P.bl.getD k []).length → 0 ≤ (P.bl.getD k []).getD i 0 ∧ (P.bl.getD k []).getD i 0 ≤ 4294967295 := by
  unfold mdoP at h
  have V := vm_of_mdo (by simp [bkOf]) h
  refine ⟨fun i hi => V.tw _ (by simp [List.getD_eq_getElem?_getD, hi]), fun k hk i hi => ?_⟩
  have := (V.bw k (by simp [bkOf]; exact hk)).2 ((P.bl.getD k []).getD i 0) (by
    have e : ((bkOf P.bl).getD k zB).2.2.2 = P.bl.getD k [] := by simp [bkOf, List.getD_eq_getElem?_getD, hk]
    rw [e]
    exact getD_mem _ _ _ hi)
  exact this
theorem Lkn.at {ps : List PMod} {L : Lay} (h : Lkn ps L) (i : Nat) (hi : i < ps.length) :
    (0 ≤ (plc ps i).text ∧ (plc ps i).text + 4 * ((ps.getD i zP).tz.length : Int) ≤ L.flash) ∧ (plc ps i).banks.length = (ps.getD i zP).bl.length ∧ (∀ j, j < (ps.getD i zP).bl.length → 0 ≤ (plc ps i).banks.getD j 0 ∧ (plc ps i).banks.getD j 0 + 4 * (((ps.getD i zP).bl.getD j []).length : Int) ≤ L.flash) ∧ (65536 ≤ (plc ps i).data ∧ (plc ps i).data - 65536 + ((ps.getD i zP).dz.length : Int) ≤ L.ram) := by
  have hm := h.v i hi
  have a1 := Fl_range h.v i (by omega)
  have a2 := Fl_mono h.v (i + 1) ps.length (by omega) (Nat.le_refl _)
  have a3 : Fl ps (i + 1) = Fl ps i + (tsz (ps.getD i zP) + fsum (ps.getD i zP) (ps.getD i zP).bl.length) := rfl
  have a4 := fsum_range hm _ (Nat.le_refl _)
  have a5 := rnd_range (x := 4 * ((ps.getD i zP).tz.length : Int)) (by omega)
  have a6 : tsz (ps.getD i zP) = rnd (4 * ((ps.getD i zP).tz.length : Int)) := rfl
  have b1 := Ra_range h.v i (by omega)
  have b2 := Ra_mono h.v (i + 1) ps.length (by omega) (Nat.le_refl _)
  have b3 : Ra ps (i + 1) = Ra ps i + dsz (ps.getD i zP) := rfl
  have b4 := vld_en hm
  have b5 := rnd_range (x := ((ps.getD i zP).dz.length : Int) + (ps.getD i zP).bss) (by omega)
  have b6 : dsz (ps.getD i zP) = rnd (((ps.getD i zP).dz.length : Int) + (ps.getD i zP).bss) := rfl
  have hfl := h.fl
  have hra := h.ra
  refine ⟨⟨a1.1, ?_⟩, by simp [plc], fun j hj => ?_, ?_, ?_⟩
  · show Fl ps i + 4 * _ ≤ _
    omega
  · have c1 := fsum_range hm j (by omega)
    have c2 := fsum_mono hm (j + 1) (ps.getD i zP).bl.length (by omega) (Nat.le_refl _)
    have c3 : fsum (ps.getD i zP) (j + 1) = fsum (ps.getD i zP) j + rnd (4 * (((ps.getD i zP).bl.getD j []).length : Int)) := rfl
    have c4 := rnd_range (x := 4 * (((ps.getD i zP).bl.getD j []).length : Int)) (by omega)
    have e : (plc ps i).banks.getD j 0 = Fl ps i + tsz (ps.getD i zP) + fsum (ps.getD i zP) j := range_getD _ _ _ _ hj
    rw [e]
    have c5 := tsz_range hm
    omega
  · show 65536 ≤ 65536 + Ra ps i
    omega
  · show 65536 + Ra ps i - 65536 + _ ≤ _
    omega
theorem mem_getD {zs : List Int} {v : Int} (h : v ∈ zs) : ∃ k, k < zs.length ∧ zs.getD k 0 = v := by
  obtain ⟨k, hk, e⟩ := List.mem_iff_getElem.1 h
  exact ⟨k, hk, by simp [List.getD_eq_getElem?_getD, hk, e]⟩
theorem getD_mem' {zs : List Int} {k : Nat} (h : k < zs.length) : zs.getD k 0 ∈ zs := by
  simp [List.getD_eq_getElem?_getD, h]
structure OM (w : World) (base : Nat) (v1 v2 v3 : Value) (x1 x2 x3 : List Int) : Prop where
  o1 : OB w base v1 x1
  o2 : OB w base v2 x2
  o3 : OB w base v3 x3
  a12 : ∀ k, v1.ownBlock = some k → v2.ownBlock ≠ some k
  a13 : ∀ k, v1.ownBlock = some k → v3.ownBlock ≠ some k
  a23 : ∀ k, v2.ownBlock = some k → v3.ownBlock ≠ some k
def imF (ps : List PMod) (L : Lay) : List Int := @ite _ (Lok ps L) (lokD ps L) (flB ps L ps.length) []
def imR (ps : List PMod) (L : Lay) : List Int := @ite _ (Lok ps L) (lokD ps L) (raB ps L ps.length) []
def ImM (w : World) (ps : List PMod) (L : Lay) (e : Ending) (w' : World) : Prop := Below w.heap.size w w' ∧ ∃ a1 n1 c1 a2 n2 c2 a3 n3 c3, e = .returned (.tuple #[.agg #[.slice a1 n1 c1, .slice a2 n2 c2, .slice a3 n3 c3], .bool (decide (Lok ps L))]) ∧ OM w' w.heap.size (.slice a1 n1 c1) (.slice a2 n2 c2) (.slice a3 n3 c3) (imF ps L) (imR ps L) []
theorem take_eq_succ7 (xs ys : List Int) (k : Nat) (h : xs.take k = ys.take k) (hx : k < xs.length) (hy : k < ys.length) (he : xs.getD k 0 = ys.getD k 0) : xs.take (k + 1) = ys.take (k + 1) := by
  rw [List.take_succ_eq_append_getElem hx, List.take_succ_eq_append_getElem hy, h]
  simp [List.getD_eq_getElem?_getD, hx, hy] at he
  rw [he]
set_option maxHeartbeats 1000000 in
theorem l7Bytes_any (a a' : Option Addr) (n cap n' cap' : Nat) (xs ys : List Int) (w : World) (h : BS w a n cap xs) (h' : BS w a' n' cap' ys) :
    Calls Tryz.prog 176 #[.slice a n cap, .slice a' n' cap'] w fun e w' => e = .returned (.bool (decide (xs = ys))) ∧ Below w.heap.size w w' := by
  obtain ⟨hl, hmx, hr, hc, _⟩ := h
  obtain ⟨hl', hmx', hr', hc', _⟩ := h'
  unfold maxLen at hmx hmx'
  by_cases hn : n = n'
  · subst hn
    have hne : ((n : Int) != (n : Int)) = false := by simp
    by_cases hn0 : n = 0
    · subst hn0
      obtain rfl : xs = [] := List.eq_nil_of_length_eq_zero hl
      obtain rfl : ys = [] := List.eq_nil_of_length_eq_zero hl'
      clear hc hc'
      go_enter Tryz.func176, Tryz.ntmps176
      go_wp2
      go_loop [5] (fun i => i = .int .i64 0) (fun _ => 0)
      case atStart => rfl
      case round =>
        obtain rfl := hrel
        go_wp2
        go_ret
        exact ⟨rfl, Below.refl _ _⟩
    · obtain ⟨b, off, rfl, hd⟩ := hc hn0
      obtain ⟨b', off', rfl, hd'⟩ := hc' hn0
      clear hc hc'
      go_enter Tryz.func176, Tryz.ntmps176
      go_wp2
      go_loopw [5] (fun i wr => ∃ k : Nat, k ≤ n ∧ i = .int .i64 k ∧ xs.take k = ys.take k ∧ Below w.heap.size w wr) (fun i _ => n - (intOf i).toNat)
      case atStart => exact ⟨0, Nat.zero_le _, rfl, by simp, Below.refl _ _⟩
      case round =>
        obtain ⟨k, hk, rfl, hT, hB⟩ := hrel
        by_cases hlt : k < n
        · have hlt' : (k : Int) < (n : Int) := by omega
          have hck : wr.cell? ⟨b, off + k, none⟩ = some (.int .u8 (xs.getD k 0)) := (hB.cell (World.block_lt_of_cell? w _ (hd k hlt))).trans (hd k hlt)
          have hck' : wr.cell? ⟨b', off' + k, none⟩ = some (.int .u8 (ys.getD k 0)) := (hB.cell (World.block_lt_of_cell? w _ (hd' k hlt))).trans (hd' k hlt)
          by_cases he : xs.getD k 0 = ys.getD k 0
          · have hS := take_eq_succ7 xs ys k hT (by omega) (by omega) he
            have HS : Hid (xs.take (k + 1) = ys.take (k + 1)) := hS
            rw [he] at hck
            clear hS hT hd hd' he
            generalize ys.getD k 0 = z at *
            have hz : (z != z) = false := by simp
            go_wp2
            go_quiet (fail)
            go_wp2
            go_roundw
            case rel => exact ⟨k + 1, by omega, by go_num, HS.out, below_drewN hB _⟩
            case measure => simp [intOf]; omega
          · have hf : Hid (decide (xs = ys) = false) := by
              show _ = _
              simp
              intro e
              exact he (by rw [e])
            have hz : (xs.getD k 0 != ys.getD k 0) = true := by simpa using he
            clear hT hd hd' he
            generalize ys.getD k 0 = z at *
            generalize xs.getD k 0 = z' at *
            go_wp2
            go_quiet (fail)
            go_wp2
            go_ret
            exact ⟨ret_bool hf.out.symm, below_drewN hB _⟩
        · have hf : Hid (decide (xs = ys) = true) := by
            show _ = _
            simp
            rw [List.take_of_length_le (by omega), List.take_of_length_le (by omega)] at hT
            exact hT
          clear hT hd hd'
          go_wp2
          go_ret
          exact ⟨ret_bool hf.out.symm, hB⟩
  · have hf : Hid (decide (xs = ys) = false) := by
      show _ = _
      simp
      intro e
      rw [e] at hl
      omega
    have hne : ((n : Int) != (n' : Int)) = true := by simp; omega
    clear hc hc'
    go_enter Tryz.func176, Tryz.ntmps176
    go_wp2
    go_ret
    exact ⟨ret_bool hf.out.symm, Below.refl _ _⟩
theorem ob_row8 {W : World} {base g n : Nat} {zs : List Int} (h : OB W base (.slice (some ⟨g, 0, none⟩) n n) zs) : W.heap[g]? = some (.cells (zs.map (Value.int .u8)).toArray 5 (0, 0)) ∧ zs.length = n ∧ base ≤ g ∧ n ≤ maxLen := by
  obtain ⟨hl, ⟨h0, _⟩ | ⟨g', cap', cur, hv, hg, hh, h1, h2, h3, h4⟩⟩ := h.1
  · simp at h0
  · simp at hv
    obtain ⟨rfl, rfl, rfl⟩ := hv
    refine ⟨?_, rfl, hg, by omega⟩
    have e : cur.toList = zs.map (Value.int .u8) := by rw [← h4, List.take_of_length_le (by simp [h3])]
    rw [hh, ← e]
theorem ovr_map (zs : List Int) (f : Nat) (ds : List Int) : splice (zs.map (Value.int .u8)) f (ds.map (Value.int .u8)) = (ovr zs f ds).map (Value.int .u8) := by
  simp [splice, ovr, List.map_take, List.map_drop]
theorem ovr_range {zs ds : List Int} {f : Nat} (hz : ∀ z ∈ zs, 0 ≤ z ∧ z ≤ 255) (hd : ∀ z ∈ ds, 0 ≤ z ∧ z ≤ 255) : ∀ z ∈ ovr zs f ds, 0 ≤ z ∧ z ≤ 255 := fun z h => by
  unfold ovr at h
  rcases List.mem_append.1 h with h | h
  · exact hz z (List.mem_of_mem_take h)
  · rcases List.mem_append.1 h with h | h
    · exact hd z h
    · exact hz z (List.mem_of_mem_drop h)
theorem ovr_nil (zs : List Int) (f : Nat) : ovr zs f [] = zs := by simp [ovr]
theorem only_setRow (g : Nat) (w : World) (cs : Array Value) : Only g w (w.setRow g cs) := ⟨by simp [World.setRow], fun k hk => setRow_other w g k cs hk, rfl, rfl, rfl⟩
theorem ob_of_row {W : World} {base g n : Nat} {zs : List Int} (h : W.heap[g]? = some (.cells (zs.map (Value.int .u8)).toArray 5 (0, 0))) (hl : zs.length = n) (hg : base ≤ g) (hm : n ≤ maxLen) (hr : ∀ z ∈ zs, 0 ≤ z ∧ z ≤ 255) : OB W base (.slice (some ⟨g, 0, none⟩) n n) zs := by
  subst hl
  refine ⟨⟨by simp, .inr ⟨g, zs.length, _, rfl, hg, h, Nat.le_refl _, hm, by simp, ?_⟩⟩, hr⟩
  simp only [List.toList_toArray, Nat.mul_one]
  exact List.take_of_length_le (by simp)
theorem copy_run {W : World} {base g n f : Nat} {zs ds : List Int} (ho : OB W base (.slice (some ⟨g, 0, none⟩) n n) zs) (ty : TypeId) (dp sp : Option Addr) (dLen dCap sLen sCap : Nat) (hds : BS W sp sLen sCap ds) (hle : sLen ≤ dLen) (hfit : f + sLen ≤ n) (hpos : 0 < sLen → dp = some ⟨g, f, none⟩) :
    ∃ w', (Builtin.copy_ #[41, 41] ty #[.slice dp dLen dCap, .slice sp sLen sCap]).run Tryz.prog W = .ok (goInt sLen) w' ∧ OB w' base (.slice (some ⟨g, 0, none⟩) n n) (ovr zs f ds) ∧ Only g W w' := by
  obtain ⟨hrow, hlz, hg, hm⟩ := ob_row8 ho
  have hld := hds.1
  have hi8 : (Tryz.prog.info? 5).map (·.size) = some 1 := by kernel_rfl
  by_cases h0 : sLen = 0
  · subst h0
    obtain rfl : ds = [] := List.eq_nil_of_length_eq_zero hld
    exact ⟨W, run_copy_none (P := Tryz.prog) W _ _ ty 5 dp sp dLen dCap 0 sCap Tryz.underlying41 hi8 (by simp), by rw [ovr_nil]; exact ho, only_refl _ _⟩
  · obtain ⟨b, off, rfl, hc⟩ := hds.2.2.2.1 h0
    rw [hpos (by omega)]
    subst hld
    have hrun := run_copy_row (P := Tryz.prog) W 41 41 ty 5 g f dLen dCap ⟨b, off, none⟩ ds.length sCap (zs.map (Value.int .u8)).toArray 5 (ds.map (Value.int .u8)) Tryz.underlying41 hi8 hrow (by rw [List.length_map]; exact (Nat.min_eq_left hle).symm) (fun j v hj => by
      have hjl : j < ds.length := by
        rcases Nat.lt_or_ge j ds.length with h1 | h1
        · exact h1
        · rw [List.getElem?_eq_none (by simp; omega)] at hj; cases hj
      rw [addr_add, hc j hjl, ← hj]
      simp [List.getD_eq_getElem?_getD, show j < ds.length by omega]) (by simp; omega) (fun v hv => by
      simp at hv
      obtain ⟨z, _, rfl⟩ := hv
      rfl)
    rw [List.length_map] at hrun
    refine ⟨_, hrun, ?_, only_setRow _ _ _⟩
    refine ob_of_row ?_ (by rw [ovr_len _ _ _ (by omega)]; exact hlz) hg hm (ovr_range ho.2 hds.2.2.1)
    have := setRow_heap W g (zs.map (Value.int .u8)).toArray (splice (zs.map (Value.int .u8)) f (ds.map (Value.int .u8))).toArray 5 (0, 0) hrow
    rw [ovr_map] at this
    rw [← ovr_map] at this ⊢
    simpa [splice] using this
end Go.Proofs.YtngdgogjlpjjpaeGreat
