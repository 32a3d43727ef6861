import Derived.Test.YtngdgogjlpjjpaeGreatJ45
import Derived.Test.YtngdgogjlpjjpaeGreatJ09
import Derived.Test.YtngdgogjlpjjpaeGreatJ46
import Derived.Deep.OwnRows
import Derived.Test.YtngdgogjlpjjpaeGreatJ38
import Derived.Test.YtngdgogjlpjjpaeGreatJ08
namespace Go.Proofs.YtngdgogjlpjjpaeGreat
open Go.RowKit
set_option linter.unusedVariables false
set_option linter.unusedSimpArgs false
set_option maxRecDepth 100000

theorem only_trans {g : Nat} {a b c : World} (h : Only g a b) (k : Only g b c) : Only g a c := ⟨k.1.trans h.1, fun j hj => (k.2.1 j hj).trans (h.2.1 j hj), k.2.2.1.trans h.2.2.1, k.2.2.2.1.trans h.2.2.2.1, k.2.2.2.2.trans h.2.2.2.2⟩
theorem only_turn' {g : Nat} {w w' : World} (h : Only g w w') : Turn (fun j => j = g) w w' := ⟨h.2.2.1, h.2.2.2.1, h.2.2.2.2, by rw [h.1]; exact Nat.le_refl _, fun k hk hn => h.2.1 k hn⟩
/-- THE FIRST i WORDS at a place -/
def pour (zs : List Int) (k : Nat) (ws : List Int) : Nat → List Int
  | 0 => zs
  | i + 1 => put (pour zs k ws i) (k + 4 * i) (ws.getD i 0) 4
theorem pour_len (zs : List Int) (k : Nat) (ws : List Int) : ∀ i, (pour zs k ws i).length = zs.length
  | 0 => rfl
  | i + 1 => by rw [pour, put_len, pour_len zs k ws i]

set_option maxHeartbeats 2000000 in
theorem l5Pour_any (g n cap k : Nat) (a : Option Addr) (wn wc : Nat) (ws zs : List Int) (base : Nat) (w0 w : World) (h0 : IS w0 a wn wc ws) (hb : Below w0.heap.size w0 w) (hg : w0.heap.size ≤ g) (ho : OB w base (.slice (some ⟨g, 0, none⟩) n cap) zs) (hn : n ≤ 16384) (hk : k + 4 * wn ≤ n) (hw : ∀ i, i < wn → 0 ≤ ws.getD i 0 ∧ ws.getD i 0 ≤ 4294967295) :
    Calls Tryz.prog 82 #[.slice (some ⟨g, 0, none⟩) n cap, .int .i64 k, .slice a wn wc] w fun e w' => e = .returned (.tuple #[]) ∧ OB w' base (.slice (some ⟨g, 0, none⟩) n cap) (pour zs k ws wn) ∧ Only g w w' := by
  have HO := hide ho
  have HB := hide hb
  clear ho hb
  go_enter Tryz.func82, Tryz.ntmps82
  go_wp2
  go_loopw [6] (fun i wr => ∃ m : Nat, m ≤ wn ∧ i = .int .i64 m ∧ OB wr base (.slice (some ⟨g, 0, none⟩) n cap) (pour zs k ws m) ∧ Only g w wr) (fun i _ => wn - (intOf i).toNat)
  case atStart => exact ⟨0, Nat.zero_le _, rfl, HO.out, only_refl _ _⟩
  case round =>
    obtain ⟨m, hm, rfl, O, T⟩ := hrel
    by_cases hlt : m < wn
    · have hlt' : (m : Int) < (wn : Int) := by omega
      obtain ⟨b, off, rfl, hc⟩ := (h0.below (only_below HB.out T hg)).2.2.2.1 (by omega)
      have q := hc m hlt
      obtain ⟨v0, v1⟩ := hw m hlt
      have HP := hide (l1Put_any g n cap (k + 4 * m) 4 (ws.getD m 0) wr (ob_room O) hn (by omega) (by omega) (by omega) v0 v1)
      have HX := hide (And.intro (ob_put O (k + 4 * m) (ws.getD m 0) 4 (by omega)) (only_trans T (only_put g (k + 4 * m) (ws.getD m 0) wr 4)))
      have HE := hide (show pour zs k ws (m + 1) = put (pour zs k ws m) (k + 4 * m) (ws.getD m 0) 4 from rfl)
      have hkm : ((k + 4 * m : Nat) : Int) = (k : Int) + 4 * (m : Int) := by omega
      rw [hkm] at HP
      clear O T hc
      generalize ws.getD m 0 = v at *
      go_wp2_with fail
      refine HP.out.mono ?_
      rintro e w1 ⟨rfl, rfl⟩
      go_wp2
      go_roundw
      case rel => exact ⟨m + 1, by omega, by go_num, by rw [HE.out]; exact HX.out.1, HX.out.2⟩
      case measure => simp [intOf]; omega
    · have e : Hid (m = wn) := by show m = wn; omega
      have HX := hide (And.intro O T)
      clear O T
      go_wp2
      go_end0
      exact ⟨rfl, by have := HX.out.1; rw [e.out] at this; exact this, HX.out.2⟩

set_option maxHeartbeats 2000000 in
theorem putWords_any (g n cap k m c : Nat) (a : Option Addr) (wn wc : Nat) (ws zs : List Int) (base : Nat) (w0 w : World) (h0 : IS w0 a wn wc ws) (hb : Below w0.heap.size w0 w) (hg : w0.heap.size ≤ g) (ho : OB w base (.slice (some ⟨g, 0, none⟩) n cap) zs) (hn : n ≤ 16384) (hk : k + 4 * wn ≤ n) (hm : 4 * wn ≤ m) (hc : m ≤ c) (hc2 : c ≤ 16384) :
    Calls Tryz.prog 178 #[.slice (some ⟨g, k, none⟩) m c, .slice a wn wc] w fun e w' => e = .returned (.tuple #[]) ∧ OB w' base (.slice (some ⟨g, 0, none⟩) n cap) (pour zs k ws wn) ∧ Only g w w' := by
  have HO := hide ho
  have HB := hide hb
  clear ho hb
  go_enter Tryz.func178, Tryz.ntmps178
  go_wp2
  go_loopw [8] (fun i wr => ∃ j : Nat, j ≤ wn ∧ i = .int .i64 j ∧ OB wr base (.slice (some ⟨g, 0, none⟩) n cap) (pour zs k ws j) ∧ Only g w wr) (fun i _ => wn - (intOf i).toNat)
  case atStart => exact ⟨0, Nat.zero_le _, rfl, HO.out, only_refl _ _⟩
  case round =>
    obtain ⟨j, hj, rfl, O, T⟩ := hrel
    by_cases hlt : j < wn
    · have hlt' : (j : Int) < (wn : Int) := by omega
      obtain ⟨b, off, rfl, hcc⟩ := (h0.below (only_below HB.out T hg)).2.2.2.1 (by omega)
      have q := hcc j hlt
      have wv : -9223372036854775808 ≤ ws.getD j 0 ∧ ws.getD j 0 ≤ 9223372036854775807 := h0.2.2.1 _ (by have := h0.1; simp [List.getD_eq_getElem?_getD, show j < ws.length by omega])
      have HP := hide (putBytes_4 g (m - 4 * j) (c - 4 * j) (k + 4 * j) (ws.getD j 0) wr (ob_room2 O (by omega)) (by omega) wv)
      have HX := hide (And.intro (ob_putD4 O (k + 4 * j) (ws.getD j 0) (by omega)) (only_trans T (only_putD4 g (k + 4 * j) (ws.getD j 0) wr)))
      have HE := hide (show pour zs k ws (j + 1) = put (pour zs k ws j) (k + 4 * j) (ws.getD j 0) 4 from rfl)
      have t0 : (0 : Int) ≤ 4 * (j : Int) := by omega
      have t1 : 4 * (j : Int) ≤ (m : Int) := by omega
      have t2 : 4 * (j : Int) < (c : Int) := by omega
      have t3 : (4 * (j : Int)).toNat = 4 * j := by omega
      clear O T hcc wv
      generalize ws.getD j 0 = v at *
      go_wp2_with fail
      refine HP.out.mono ?_
      rintro e w1 ⟨rfl, rfl⟩
      go_wp2
      go_roundw
      case rel => exact ⟨j + 1, by omega, by go_num, by rw [HE.out]; exact HX.out.1, HX.out.2⟩
      case measure => simp [intOf]; omega
    · have e : Hid (j = wn) := by show j = wn; omega
      have HX := hide (And.intro O T)
      clear O T
      go_wp2
      go_end0
      exact ⟨rfl, by have := HX.out.1; rw [e.out] at this; exact this, HX.out.2⟩
end Go.Proofs.YtngdgogjlpjjpaeGreat

namespace Go.Proofs.YtngdgogjlpjjpaeGreat
open Go.RowKit
set_option linter.unusedVariables false
set_option linter.unusedSimpArgs false
set_option maxRecDepth 100000

/-- cells of zero -/
def zby (n : Nat) : Array Value := ((List.replicate n (0:Int)).map (Value.int .u8)).toArray
theorem make8 (n : Nat) (hn : n ≤ 16384) (W : World) : (Instr.makeSlice 41 (.int .i64 (n : Int)) (.int .i64 (n : Int))).run Tryz.prog W = .ok (.slice (some ⟨W.heap.size, 0, none⟩) n n) (W.alloc (.cells (zby n) 5)) := by
  rw [run_make_row' 41 5 (.int .u8 0) 1 Tryz.underlying41 info8 rfl .i64 .i64 n (by omega) (by omega) W]
  have := made8 n
  rw [Nat.mul_one] at this
  unfold zby
  rw [← this]
  rfl
theorem zby_ob {W : World} {g base n : Nat} (h : Blk W g (zby n) 5) (hg : base ≤ g) (hn : n ≤ 16384) : OB W base (.slice (some ⟨g, 0, none⟩) n n) (List.replicate n 0) := by
  refine ⟨⟨by simp, .inr ⟨g, n, zby n, by simp, hg, h, by simp, by unfold maxLen; omega, by simp [zby], ?_⟩⟩, fun z hz => by have := List.eq_of_mem_replicate hz; omega⟩
  unfold zby
  simp only [List.toList_toArray, List.length_replicate, Nat.mul_one]
  exact List.take_of_length_le (by simp)
/-- the words of a module at its place -/
def pourB (zs : List Int) (P : PMod) (p : Pl) : Nat → List Int
  | 0 => pour zs p.text.toNat P.tz P.tz.length
  | j + 1 => pour (pourB zs P p j) (p.banks.getD j 0).toNat (P.bl.getD j []) (P.bl.getD j []).length
theorem pourB_len (zs : List Int) (P : PMod) (p : Pl) : ∀ j, (pourB zs P p j).length = zs.length
  | 0 => pour_len _ _ _ _
  | j + 1 => by rw [pourB, pour_len, pourB_len zs P p j]
/-- FLASH behind the first modules -/
def flB (ps : List PMod) (L : Lay) : Nat → List Int
  | 0 => List.replicate L.flash.toNat 0
  | i + 1 => pourB (flB ps L i) (ps.getD i zP) (L.places.getD i zPB.1) (ps.getD i zP).bl.length
/-- the words that are moved -/
def relB (zs : List Int) (f : Nat) (rz : List Int) (d : Int) : Nat → List Int
  | 0 => zs
  | j + 1 => put (relB zs f rz d j) (f + (rz.getD j 0).toNat) (low (((relB zs f rz d j).drop (f + (rz.getD j 0).toNat)).take 4) + d) 4
theorem relB_len (zs : List Int) (f : Nat) (rz : List Int) (d : Int) : ∀ j, (relB zs f rz d j).length = zs.length
  | 0 => rfl
  | j + 1 => by rw [relB, put_len, relB_len zs f rz d j]
/-- data laid over -/
def ovr (zs : List Int) (f : Nat) (ds : List Int) : List Int := zs.take f ++ (ds ++ zs.drop (f + ds.length))
theorem ovr_len (zs : List Int) (f : Nat) (ds : List Int) (h : f + ds.length ≤ zs.length) : (ovr zs f ds).length = zs.length := by simp [ovr]; omega
/-- RAM behind the first modules -/
def raB (ps : List PMod) (L : Lay) : Nat → List Int
  | 0 => List.replicate L.ram.toNat 0
  | i + 1 => relB (ovr (raB ps L i) ((L.places.getD i zPB.1).data - 65536).toNat (ps.getD i zP).dz) ((L.places.getD i zPB.1).data - 65536).toNat (ps.getD i zP).rz (L.places.getD i zPB.1).data (ps.getD i zP).rz.length
theorem flB_len (ps : List PMod) (L : Lay) : ∀ i, (flB ps L i).length = L.flash.toNat
  | 0 => by simp [flB]
  | i + 1 => by rw [flB, pourB_len, flB_len ps L i]
theorem lkc_big {ps : List PMod} {s w k d : Int} (h : lkc ps s w k d = 0) : (lay ps s w k).flash ≤ 16384 ∧ (lay ps s w k).ram ≤ 16384 := by
  unfold lkc at h
  split at h
  · rename_i h1; exact absurd h h1
  split at h
  · exact absurd h (by decide)
  split at h
  · exact absurd h (by decide)
  split at h
  · exact absurd h (by decide)
  split at h
  · exact absurd h (by decide)
  rename_i h1 h2
  omega
theorem Fl_mono {ps : List PMod} (hv : vlds ps) : ∀ i j, i ≤ j → j ≤ ps.length → Fl ps i ≤ Fl ps j
  | i, 0, h, _ => by have : i = 0 := by omega
                     subst this; exact Int.le_refl _
  | i, j + 1, h, hj => by
    by_cases e : i = j + 1
    · subst e; exact Int.le_refl _
    · have h1 := Fl_mono hv i j (by omega) (by omega)
      have hm := hv j (by omega)
      have h2 := tsz_range hm
      have h3 := fsum_range hm _ (Nat.le_refl _)
      show Fl ps i ≤ Fl ps j + (tsz (ps.getD j zP) + fsum (ps.getD j zP) (ps.getD j zP).bl.length)
      omega
theorem Ra_mono {ps : List PMod} (hv : vlds ps) : ∀ i j, i ≤ j → j ≤ ps.length → Ra ps i ≤ Ra ps j
  | i, 0, h, _ => by have : i = 0 := by omega
                     subst this; exact Int.le_refl _
  | i, j + 1, h, hj => by
    by_cases e : i = j + 1
    · subst e; exact Int.le_refl _
    · have h1 := Ra_mono hv i j (by omega) (by omega)
      have h2 := dsz_range (hv j (by omega))
      show Ra ps i ≤ Ra ps j + dsz (ps.getD j zP)
      omega
theorem fsum_mono {P : PMod} (hv : mdoP P = 0) : ∀ i j, i ≤ j → j ≤ P.bl.length → fsum P i ≤ fsum P j
  | i, 0, h, _ => by have : i = 0 := by omega
                     subst this; exact Int.le_refl _
  | i, j + 1, h, hj => by
    by_cases e : i = j + 1
    · subst e; exact Int.le_refl _
    · have h1 := fsum_mono hv i j (by omega) (by omega)
      have h2 := rnd_range (x := 4 * ((P.bl.getD j []).length : Int)) (by omega)
      show fsum P i ≤ fsum P j + rnd (4 * ((P.bl.getD j []).length : Int))
      omega
/-- WHAT IS KNOWN OF A LAYOUT that some configuration gives -/
structure Lkn (ps : List PMod) (L : Lay) : Prop where
  n : 1 ≤ ps.length ∧ ps.length ≤ 4
  v : vlds ps
  im : imps ps
  pl : L.places = (List.range ps.length).map (plc ps)
  fl : L.flash = Fl ps ps.length
  fr : 0 ≤ L.flash ∧ L.flash ≤ 16384
  ra : Ra ps ps.length ≤ L.ram
  rr : 0 ≤ L.ram ∧ L.ram ≤ 16384
  tg : L.targets = (List.range ps.length).map fun i => tgs ps (ps.getD i zP)
  st : L.stack = 65536 + Ra ps ps.length
theorem lok_kn {ps : List PMod} {L : Lay} (h : Lok ps L) : Lkn ps L := by
  obtain ⟨h1, h2⟩ := h
  have e : lay ps (L.slots.length : Int) (cfW L) (cfK L) = L := by unfold lkL at h2; rw [if_pos h1] at h2; exact h2
  obtain ⟨hc, n1, n2, hv, hi⟩ := lkc_facts h1
  obtain ⟨b1, b2⟩ := lkc_big h1
  unfold cfo at hc
  simp at hc
  have a1 := Fl_range hv ps.length (Nat.le_refl _)
  have a2 := Ra_range hv ps.length (Nat.le_refl _)
  have a3 : (0 : Int) ≤ ((L.slots.length : Int).toNat : Int) * rnd (4 * cfW L) := Int.mul_nonneg (by omega) (by have := rnd_range (x := 4 * cfW L) (by omega); omega)
  have e1 : L.flash = Fl ps ps.length := by rw [← e]; rfl
  have e2 : L.ram = Ra ps ps.length + cfK L + ((L.slots.length : Int).toNat : Int) * rnd (4 * cfW L) := by
    have := congrArg Lay.ram e
    rw [← this]; rfl
  rw [e] at b1 b2
  exact ⟨⟨n1, n2⟩, hv, hi, by rw [← e]; rfl, e1, ⟨by omega, b1⟩, by omega, ⟨by omega, b2⟩, by rw [← e]; rfl, by have := congrArg Lay.stack e; rw [← this]; rfl⟩
theorem Lkn.place {ps : List PMod} {L : Lay} (h : Lkn ps L) (i : Nat) (hi : i < ps.length) : L.places.getD i zPB.1 = plc ps i := by
  rw [h.pl]
  simp [List.getD_eq_getElem?_getD, hi]
theorem vld_rl {P : PMod} (h : mdoP P = 0) : ∀ j, j < P.rz.length → 0 ≤ P.rz.getD j 0 ∧ P.rz.getD j 0 + 4 ≤ (P.dz.length : Int) := by
  unfold mdoP mdo at h
  split at h
  · exact absurd h (by decide)
  split at h
  · exact absurd h (by decide)
  split at h
  · exact absurd h (by decide)
  split at h
  · exact absurd h (by decide)
  rename_i h1 h2 h3 h4
  intro j hj
  have h5 : rlo P.rz.length P.rz P.dz.length = true := by simpa using h4
  unfold rlo at h5
  rw [Bool.and_eq_true, List.all_eq_true] at h5
  have h6 := h5.2 j (by simpa using hj)
  unfold rlk at h6
  rw [decide_eq_true_eq] at h6
  omega
theorem getD_mem {α : Type} (l : List α) (i : Nat) (z : α) (h : i < l.length) : l.getD i z ∈ l := by simp [List.getD_eq_getElem?_getD, h]
theorem range_getD {α : Type} (f : Nat → α) (n j : Nat) (z : α) (h : j < n) : ((List.range n).map f).getD j z = f j := by simp [List.getD_eq_getElem?_getD, h]
theorem vld_wd {P : PMod} (h : mdoP P = 0) : (∀ i, i < P.tz.length → 0 ≤ P.tz.getD i 0 ∧ P.tz.getD i 0 ≤ 4294967295) ∧ ∀ k, k < P.bl.length → ∀ i, i < (P.bl.getD k []).length → 0 ≤ (P.bl.getD k []).getD i 0 ∧ (P.bl.getD k []).getD i 0 ≤ 4294967295 := by
  unfold mdoP at h
  have V := vm_of_mdo (by simp [bkOf]) h
  refine ⟨fun i hi => V.tw _ (by simp [List.getD_eq_getElem?_getD, hi]), fun k hk i hi => ?_⟩
  have := (V.bw k (by simp [bkOf]; exact hk)).2 ((P.bl.getD k []).getD i 0) (by
    have e : ((bkOf P.bl).getD k zB).2.2.2 = P.bl.getD k [] := by simp [bkOf, List.getD_eq_getElem?_getD, hk]
    rw [e]
    exact getD_mem _ _ _ hi)
  exact this
/-- where a module's things lie -/
theorem Lkn.at {ps : List PMod} {L : Lay} (h : Lkn ps L) (i : Nat) (hi : i < ps.length) :
    (0 ≤ (plc ps i).text ∧ (plc ps i).text + 4 * ((ps.getD i zP).tz.length : Int) ≤ L.flash) ∧ (plc ps i).banks.length = (ps.getD i zP).bl.length ∧ (∀ j, j < (ps.getD i zP).bl.length → 0 ≤ (plc ps i).banks.getD j 0 ∧ (plc ps i).banks.getD j 0 + 4 * (((ps.getD i zP).bl.getD j []).length : Int) ≤ L.flash) ∧ (65536 ≤ (plc ps i).data ∧ (plc ps i).data - 65536 + ((ps.getD i zP).dz.length : Int) ≤ L.ram) := by
  have hm := h.v i hi
  have a1 := Fl_range h.v i (by omega)
  have a2 := Fl_mono h.v (i + 1) ps.length (by omega) (Nat.le_refl _)
  have a3 : Fl ps (i + 1) = Fl ps i + (tsz (ps.getD i zP) + fsum (ps.getD i zP) (ps.getD i zP).bl.length) := rfl
  have a4 := fsum_range hm _ (Nat.le_refl _)
  have a5 := rnd_range (x := 4 * ((ps.getD i zP).tz.length : Int)) (by omega)
  have a6 : tsz (ps.getD i zP) = rnd (4 * ((ps.getD i zP).tz.length : Int)) := rfl
  have b1 := Ra_range h.v i (by omega)
  have b2 := Ra_mono h.v (i + 1) ps.length (by omega) (Nat.le_refl _)
  have b3 : Ra ps (i + 1) = Ra ps i + dsz (ps.getD i zP) := rfl
  have b4 := vld_en hm
  have b5 := rnd_range (x := ((ps.getD i zP).dz.length : Int) + (ps.getD i zP).bss) (by omega)
  have b6 : dsz (ps.getD i zP) = rnd (((ps.getD i zP).dz.length : Int) + (ps.getD i zP).bss) := rfl
  have hfl := h.fl
  have hra := h.ra
  refine ⟨⟨a1.1, ?_⟩, by simp [plc], fun j hj => ?_, ?_, ?_⟩
  · show Fl ps i + 4 * _ ≤ _
    omega
  · have c1 := fsum_range hm j (by omega)
    have c2 := fsum_mono hm (j + 1) (ps.getD i zP).bl.length (by omega) (Nat.le_refl _)
    have c3 : fsum (ps.getD i zP) (j + 1) = fsum (ps.getD i zP) j + rnd (4 * (((ps.getD i zP).bl.getD j []).length : Int)) := rfl
    have c4 := rnd_range (x := 4 * (((ps.getD i zP).bl.getD j []).length : Int)) (by omega)
    have e : (plc ps i).banks.getD j 0 = Fl ps i + tsz (ps.getD i zP) + fsum (ps.getD i zP) j := range_getD _ _ _ _ hj
    rw [e]
    have c5 := tsz_range hm
    omega
  · show 65536 ≤ 65536 + Ra ps i
    omega
  · show 65536 + Ra ps i - 65536 + _ ≤ _
    omega
end Go.Proofs.YtngdgogjlpjjpaeGreat

namespace Go.Proofs.YtngdgogjlpjjpaeGreat
open Go.RowKit
set_option linter.unusedVariables false
set_option linter.unusedSimpArgs false
set_option maxRecDepth 100000

/-- the number of words of a piece -/
def pcq (ps : List PMod) (m b : Int) : Int :=
  if 0 ≤ m ∧ m < (ps.length : Int) then (if b = -1 then ((ps.getD m.toNat zP).tz.length : Int) else if 0 ≤ b ∧ b < ((ps.getD m.toNat zP).bl.length : Int) then (((ps.getD m.toNat zP).bl.getD b.toNat []).length : Int) else -1) else -1
theorem pcm_pcq {w : World} {a : Option Addr} {n cap : Nat} {ms : List Md} (h : MSD w a n cap ms) (m b : Int) : pcm ms m b = pcq (pmS ms) m b := by
  have hn := h.s.1
  unfold pcm pcq
  rw [pmS_len]
  by_cases c : 0 ≤ m ∧ m < (ms.length : Int)
  · rw [if_pos c, if_pos c, pmS_at (by omega)]
    have hd := h.d m.toNat (by omega)
    generalize ms.getD m.toNat zMd = M at *
    have ht : M.tn = M.pm.tz.length := hd.t.1.symm
    have hb : M.bn = M.pm.bl.length := by simp [Md.pm, hd.b.1]
    unfold pcn
    rw [ht, hb]
    by_cases c1 : b = -1
    · rw [if_pos c1, if_pos c1]
    · rw [if_neg c1, if_neg c1]
      by_cases c2 : 0 ≤ b ∧ b < (M.pm.bl.length : Int)
      · rw [if_pos c2, if_pos c2]
        have hr := (hd.b.2.2.2.1 b.toNat (by omega)).1
        rw [← hr]
        congr 1
        have : b.toNat < M.bl.length := by rw [hd.b.1, hb]; omega
        simp [Md.pm, List.getD_eq_getElem?_getD, this]
      · rw [if_neg c2, if_neg c2]
  · rw [if_neg c, if_neg c]
/-- THE SPANS of a piece's plan -/
def orgq (L : Lay) (p : Pl) (b s : Int) : Int := if b = -1 then p.text else if s = -1 then p.banks.getD b.toNat 0 else L.slots.getD s.toNat 0
theorem orgn_q (L : Lay) (P : PB) (b s : Int) : orgn L P b s = orgq L P.1 b s := rfl
/-- the slots that fit -/
def sOk (L : Lay) (b s : Int) : Prop := if b = -1 ∨ L.slots = [] then s = -1 else 0 ≤ s ∧ s < (L.slots.length : Int)
instance (L : Lay) (b s : Int) : Decidable (sOk L b s) := by unfold sOk; infer_instance
theorem sOk.fit {L : Lay} {b s : Int} (h : sOk L b s) : s = -1 ∨ (b ≠ -1 ∧ 0 ≤ s ∧ s < (L.slots.length : Int)) := by
  unfold sOk at h
  split at h
  · exact .inl h
  · rename_i c
    exact .inr ⟨fun e => c (.inl e), h⟩
/-- WHAT IS KNOWN where there is such a piece -/
structure Pkn (ps : List PMod) (L : Lay) (xs : List PB) (m b s : Int) : Prop where
  m0 : 0 ≤ m
  m1 : m < (xs.length : Int)
  m2 : m < (ps.length : Int)
  p : (xs.getD m.toNat zPB).1 = plc ps m.toNat
  bb : b = -1 ∨ (0 ≤ b ∧ b < ((xs.getD m.toNat zPB).1.banks.length : Int))
  w : 0 ≤ pcq ps m b ∧ pcq ps m b ≤ 200
  d : 65536 ≤ (plc ps m.toNat).data ∧ (plc ps m.toNat).data ≤ 100000 ∧ 0 ≤ (plc ps m.toNat).size ∧ (plc ps m.toNat).size ≤ 100000
  t : 65536 ≤ L.stack ∧ L.stack ≤ 100000
  e : 65536 ≤ endOf L ∧ endOf L ≤ 100000
theorem lok_end {ps : List PMod} {L : Lay} (h : Lok ps L) : 65536 ≤ endOf L ∧ endOf L ≤ 100000 := by
  have K := lok_kn h
  obtain ⟨h1, h2⟩ := h
  have e : lay ps (L.slots.length : Int) (cfW L) (cfK L) = L := by unfold lkL at h2; rw [if_pos h1] at h2; exact h2
  obtain ⟨hc, n1, n2, hv, hi⟩ := lkc_facts h1
  unfold cfo at hc
  simp at hc
  have a2 := Ra_range hv ps.length (Nat.le_refl _)
  have a3 : (0 : Int) ≤ ((L.slots.length : Int).toNat : Int) * rnd (4 * cfW L) := Int.mul_nonneg (by omega) (by have := rnd_range (x := 4 * cfW L) (by omega); omega)
  have e2 : L.ram = Ra ps ps.length + cfK L + ((L.slots.length : Int).toNat : Int) * rnd (4 * cfW L) := by
    have := congrArg Lay.ram e
    rw [← this]; rfl
  have rr := K.rr
  unfold endOf
  by_cases c : L.slots = []
  · rw [if_pos c]
    have : wrap64 (65536 + L.ram) = 65536 + L.ram := by unfold wrap64; omega
    rw [this]
    omega
  · rw [if_neg c]
    have hl : 0 < L.slots.length := List.length_pos_iff.2 c
    have e3 : L.slots.getD 0 0 = slt ps (cfW L) (cfK L) 0 := by
      have := congrArg Lay.slots e
      have e4 : L.slots = (List.range (L.slots.length : Int).toNat).map (slt ps (cfW L) (cfK L)) := by
        conv => lhs; rw [← this]
        rfl
      rw [e4]
      simp [List.getD_eq_getElem?_getD, hl]
    rw [e3]
    unfold slt
    simp only [Int.natCast_zero, Int.zero_mul]
    omega
theorem pkn_of {w : World} {L : Lay} {a0 : Option Addr} {c0 : Nat} {xs : List PB} {a2 : Option Addr} {c2 : Nat} {a5 : Option Addr} {c5 : Nat} {ts : List TB} {ps : List PMod} {m b s : Int}
    (hL : LyT w L a0 c0 xs a2 c2 a5 c5 ts) (hk : Lok ps L) (hp : 0 ≤ pcq ps m b) : Pkn ps L xs m b s := by
  have K := lok_kn hk
  have hm : 0 ≤ m ∧ m < (ps.length : Int) := by
    unfold pcq at hp
    split at hp
    · assumption
    · exact absurd hp (by decide)
  have hx : xs.length = ps.length := by
    have := congrArg List.length (hL.ps.trans K.pl)
    simpa using this
  have hpl : (xs.getD m.toNat zPB).1 = plc ps m.toNat := by
    rw [← K.place m.toNat (by omega), ← hL.ps]
    simp [List.getD_eq_getElem?_getD, show m.toNat < xs.length by omega]
  have hv := K.v m.toNat (by omega)
  obtain ⟨_, _, v3, v4, _, _, _, v8⟩ := vld_en hv
  have r1 := Ra_range K.v m.toNat (by omega)
  have r2 := Ra_range K.v ps.length (Nat.le_refl _)
  have r3 := dsz_range hv
  have n4 := K.n.2
  have n5 : (m.toNat : Int) ≤ 4 := by omega
  refine ⟨hm.1, by rw [hx]; exact hm.2, hm.2, hpl, ?_, ⟨hp, ?_⟩, ?_, ?_, lok_end hk⟩
  · rw [hpl]
    unfold pcq at hp
    rw [if_pos hm] at hp
    by_cases c : b = -1
    · exact .inl c
    · rw [if_neg c] at hp
      right
      split at hp
      · rename_i c2
        simpa [plc] using c2
      · exact absurd hp (by decide)
  · unfold pcq
    rw [if_pos hm]
    by_cases c : b = -1
    · rw [if_pos c]; omega
    · rw [if_neg c]
      by_cases c2 : 0 ≤ b ∧ b < ((ps.getD m.toNat zP).bl.length : Int)
      · rw [if_pos c2]
        have := v8 b.toNat (by omega)
        omega
      · rw [if_neg c2]; omega
  · have : (plc ps m.toNat).data = 65536 + Ra ps m.toNat := rfl
    have e2 : (plc ps m.toNat).size = dsz (ps.getD m.toNat zP) := rfl
    rw [this, e2]
    omega
  · rw [K.st]
    have : (ps.length : Int) ≤ 4 := by omega
    omega
end Go.Proofs.YtngdgogjlpjjpaeGreat

namespace Go.Proofs.YtngdgogjlpjjpaeGreat
open Go.RowKit
set_option linter.unusedVariables false
set_option linter.unusedSimpArgs false
set_option maxRecDepth 100000

theorem mem_getD {zs : List Int} {v : Int} (h : v ∈ zs) : ∃ k, k < zs.length ∧ zs.getD k 0 = v := by
  obtain ⟨k, hk, e⟩ := List.mem_iff_getElem.1 h
  exact ⟨k, hk, by simp [List.getD_eq_getElem?_getD, hk, e]⟩
theorem getD_mem' {zs : List Int} {k : Nat} (h : k < zs.length) : zs.getD k 0 ∈ zs := by
  simp [List.getD_eq_getElem?_getD, h]

set_option maxHeartbeats 1000000 in
theorem sliceIndexI_any (a : Option Addr) (n cap : Nat) (zs : List Int) (v : Int) (w : World) (h : IS w a n cap zs) :
    Calls Tryz.prog 183 #[.slice a n cap, .int .i64 v] w fun e w' => ∃ r : Int, e = .returned (.int .i64 r) ∧ (0 ≤ r ↔ v ∈ zs) ∧ Below w.heap.size w w' := by
  obtain ⟨hl, hmx, hr, hc, _⟩ := h
  unfold maxLen at hmx
  have HL := hide hl
  clear hr
  by_cases hn0 : n = 0
  · subst hn0
    obtain rfl : zs = [] := List.eq_nil_of_length_eq_zero hl
    clear hc hl
    go_enter Tryz.func183, Tryz.ntmps183
    go_wp2
    go_loop [8] (fun i => i = .int .i64 0) (fun _ => 0)
    case atStart => rfl
    case round =>
      obtain rfl := hrel
      go_wp2
      go_ret
      exact ⟨-1, rfl, by simp, Below.refl _ _⟩
  · obtain ⟨b, off, rfl, hd⟩ := hc hn0
    clear hc hl
    go_enter Tryz.func183, Tryz.ntmps183
    go_wp2
    go_loopw [5, 8] (fun _ i wr => ∃ k : Nat, k ≤ n ∧ i = .int .i64 k ∧ (∀ j, j < k → ¬ zs.getD j 0 = v) ∧ Below w.heap.size w wr) (fun _ i _ => n - (intOf i).toNat)
    case atStart => exact ⟨0, Nat.zero_le _, rfl, fun j hj => absurd hj (Nat.not_lt_zero _), Below.refl _ _⟩
    case round =>
      obtain ⟨k, hk, rfl, hT, hB⟩ := hrel
      by_cases hlt : k < n
      · have hlt' : (k : Int) < (n : Int) := by omega
        have hck : wr.cell? ⟨b, off + k, none⟩ = some (.int .i64 (zs.getD k 0)) := (hB.cell (World.block_lt_of_cell? w _ (hd k hlt))).trans (hd k hlt)
        have HB := hide hB
        by_cases he : zs.getD k 0 = v
        · have HM := hide (show v ∈ zs from he ▸ getD_mem' (by rw [HL.out]; exact hlt))
          rw [he] at hck
          clear hT hd he hB
          have hz : (v == v) = true := by simp
          go_wp2
          go_ret
          exact ⟨k, rfl, by simp [HM.out], HB.out⟩
        · have HS := hide (show ∀ j, j < k + 1 → ¬ zs.getD j 0 = v from fun j hj => by
            by_cases e : j = k
            · rw [e]; exact he
            · exact hT j (by omega))
          have hz : (v == zs.getD k 0) = false := by simpa using fun e : v = zs.getD k 0 => he e.symm
          clear hT hd he hB
          generalize zs.getD k 0 = z at *
          go_wp2
          go_roundw
          case rel => exact ⟨k + 1, by omega, by go_num, HS.out, HB.out⟩
          case measure => simp [intOf]; omega
      · have HN := hide (show ¬ v ∈ zs from fun hm => by
          obtain ⟨j, hj, e⟩ := mem_getD hm
          exact hT j (by rw [HL.out] at hj; omega) e)
        have HB := hide hB
        clear hT hd hB
        go_wp2
        go_ret
        exact ⟨-1, rfl, by simp [HN.out], HB.out⟩
set_option maxHeartbeats 1000000 in
theorem sliceHasI_any (a : Option Addr) (n cap : Nat) (zs : List Int) (v : Int) (w : World) (h : IS w a n cap zs) :
    Calls Tryz.prog 100 #[.slice a n cap, .int .i64 v] w fun e w' => e = .returned (.bool (decide (v ∈ zs))) ∧ Below w.heap.size w w' := by
  have HI := hide (sliceIndexI_any a n cap zs v w h)
  clear h
  go_enter Tryz.func100, Tryz.ntmps100
  go_wp2_with fail
  refine HI.out.mono ?_
  rintro e w' ⟨r, rfl, hr, hB⟩
  have HR := hide hr
  have HB := hide hB
  clear hr hB
  go_wp2
  all_goals go_ret
  all_goals exact ⟨ret_bool (by simp [← HR.out]), HB.out⟩
end Go.Proofs.YtngdgogjlpjjpaeGreat

namespace Go.Proofs.YtngdgogjlpjjpaeGreat
open Go.RowKit
set_option linter.unusedVariables false
set_option linter.unusedSimpArgs false
set_option maxRecDepth 100000

/-- THE REGIONS of a piece's plan -/
def plR (ps : List PMod) (L : Lay) (m b s : Int) : List Rg := (([] ++ rts true true false (cvL (plc ps m.toNat).data (plc ps m.toNat).size)) ++ rts true true false (cvL L.stack (endOf L - L.stack)) ++ rts false true false (cvL 131072 32)) ++ rts false false true (cvL (orgq L (plc ps m.toNat) b s) (rnd (4 * pcq ps m b)))
theorem org_mono {w : World} {base base' : Nat} {v : Value} {rs : List Rg} (h : ORg w base v rs) (hb : base' ≤ base) : ORg w base' v rs := by
  refine ⟨?_, h.2⟩
  obtain ⟨hl, h0 | ⟨g', cap, cur, hv, hg, hh, h1, h2, h3, h4⟩⟩ := h.1
  · exact ⟨hl, .inl h0⟩
  · exact ⟨hl, .inr ⟨g', cap, cur, hv, Nat.le_trans hb hg, hh, h1, h2, h3, h4⟩⟩
/-- a row that grows behind world V -/
structure PlZ (V X : World) (v : Value) (rs : List Rg) : Prop where
  b : Below V.heap.size V X
  o : ORg X V.heap.size v rs
theorem PlZ.below {V X X' : World} {v : Value} {rs : List Rg} (h : PlZ V X v rs) (hb : Below X.heap.size X X') : PlZ V X' v rs := ⟨h.b.trans (hb.mono h.b.size), turn_or' (turn_below hb) h.o (fun _ _ h => h)⟩
theorem PlZ.drew {V X : World} {v : Value} {rs : List Rg} (h : PlZ V X v rs) : PlZ V X.drew v rs := h.below (Below.refl _ _).drew
theorem PlZ.cells {V X : World} {v : Value} {rs : List Rg} (h : PlZ V X v rs) {a : Addr} {u : Value} (hc : V.cell? a = some u) : X.cell? a = some u := (h.b.cell (World.block_lt_of_cell? V _ hc)).trans hc
theorem l6With_z {V : World} (A : Option Addr) (m cap : Nat) (rs : List Rg) (f s : Int) (r x y : Bool) (X : World) (h : PlZ V X (.slice A m cap) rs) (hf : wfi f) (hs : wfi s) (hm : m ≤ 1000000) :
    Calls Tryz.prog 134 #[.slice A m cap, .int .i64 f, .int .i64 s, .bool r, .bool x, .bool y] X fun e w' => ∃ A' m' cap', e = .returned (.slice A' m' cap') ∧ m' ≤ m + 8192 ∧ PlZ V w' (.slice A' m' cap') (rs ++ rts r x y (cvL f s)) :=
  (l6With_any A m cap rs f s r x y V.heap.size X h.b.size h.o hf hs hm).mono fun e w' ⟨A', m', cap', he, hm', ho, hb⟩ => ⟨A', m', cap', he, by have := cvL_len f s; omega, h.b.trans hb, ho⟩
theorem orgn_wfi {w : World} {L : Lay} {a0 : Option Addr} {c0 : Nat} {xs : List PB} {a2 : Option Addr} {c2 : Nat} {a5 : Option Addr} {c5 : Nat} {ts : List TB} {ps : List PMod} {m b s : Int}
    (hL : LyT w L a0 c0 xs a2 c2 a5 c5 ts) (hk : Lok ps L) (hp : 0 ≤ pcq ps m b) (hs : s = -1 ∨ (b ≠ -1 ∧ 0 ≤ s ∧ s < (L.slots.length : Int))) : wfi (orgn L (xs.getD m.toNat zPB) b s) := by
  have Q := pkn_of (s := s) hL hk hp
  have K := lok_kn hk
  have hm := Q.m2
  have hm0 := Q.m0
  have hv := K.v m.toNat (by omega)
  have n4 := K.n.2
  have r1 := Fl_range K.v m.toNat (by omega)
  have r2 := tsz_range hv
  have n5 : (m.toNat : Int) ≤ 4 := by omega
  unfold orgn
  rw [Q.p]
  by_cases c : b = -1
  · rw [if_pos c]
    have e : (plc ps m.toNat).text = Fl ps m.toNat := rfl
    rw [e]
    unfold wfi
    omega
  · rw [if_neg c]
    by_cases c2 : s = -1
    · rw [if_pos c2]
      have hb := Q.bb.resolve_left c
      rw [Q.p] at hb
      have hl : (plc ps m.toNat).banks.length = (ps.getD m.toNat zP).bl.length := by simp [plc]
      have hbn : b.toNat < (ps.getD m.toNat zP).bl.length := by rw [hl] at hb; omega
      have e : (plc ps m.toNat).banks.getD b.toNat 0 = Fl ps m.toNat + tsz (ps.getD m.toNat zP) + fsum (ps.getD m.toNat zP) b.toNat := by
        simp only [plc]
        rw [getD_map _ _ _ 0 _ (by rw [List.length_range]; exact hbn), show (List.range (ps.getD m.toNat zP).bl.length).getD b.toNat 0 = b.toNat by rw [List.getD_eq_getElem?_getD, List.getElem?_range hbn]; rfl]
      have r3 := fsum_range hv b.toNat (by omega)
      obtain ⟨_, _, _, v4, _⟩ := vld_en hv
      rw [e]
      unfold wfi
      omega
    · rw [if_neg c2]
      have h2 := hs.resolve_left c2
      exact hL.s.2.2.1 _ (getD_mem' (by omega))
set_option maxHeartbeats 4000000 in
theorem l6Plan_any (a : Option Addr) (n cap : Nat) (ms : List Md) (L : Lay) (a0 : Option Addr) (c0 : Nat) (xs : List PB) (a2 : Option Addr) (c2 : Nat) (a5 : Option Addr) (c5 : Nat) (ts : List TB) (m b at' s : Int) (w : World) (h : MSD w a n cap ms) (hL : LyT w L a0 c0 xs a2 c2 a5 c5 ts)
    (hk : Lok (pmS ms) L) (hp : 0 ≤ pcq (pmS ms) m b) (hs : s = -1 ∨ (b ≠ -1 ∧ 0 ≤ s ∧ s < (L.slots.length : Int))) :
    Calls Tryz.prog 51 #[.slice a n cap, .agg #[.slice a0 xs.length c0, .int .i64 L.stack, .slice a2 L.slots.length c2, .int .i64 L.flash, .int .i64 L.ram, .slice a5 ts.length c5], .agg #[.int .i64 m, .int .i64 b, .int .i64 at'], .int .i64 s] w fun e w' => ∃ A k c, e = .returned (.slice A k c) ∧ ORg w' w.heap.size (.slice A k c) (plR (pmS ms) L m b s) ∧ Below w.heap.size w w' := by
  have K := pkn_of (s := s) hL hk hp
  have hn := h.s.1
  have hlen := pmS_len ms
  obtain ⟨m0, m1, m2, hpl, hbb, hw, hd, hst, hen⟩ := K
  have hwfo : wfi (orgn L (xs.getD m.toNat zPB) b s) := orgn_wfi hL hk hp hs
  have HPQ := hide (pcm_pcq h m b)
  obtain ⟨W, hW⟩ : ∃ W, W = (w.alloc (.cells #[.slice a0 xs.length c0, .int .i64 L.stack, .slice a2 L.slots.length c2, .int .i64 L.flash, .int .i64 L.ram, .slice a5 ts.length c5] 36)).alloc (.cells #[.int .i64 m, .int .i64 b, .int .i64 at'] 71) := ⟨_, rfl⟩
  have hB : Below w.heap.size w W := by rw [hW]; exact ((Below.refl _ _).alloc (Nat.le_refl _) _).alloc (by simp) _
  have k0 : Blk W w.heap.size #[.slice a0 xs.length c0, .int .i64 L.stack, .slice a2 L.slots.length c2, .int .i64 L.flash, .int .i64 L.ram, .slice a5 ts.length c5] 36 := by rw [hW]; exact (Blk.new w _ _).alloc _
  have k1 : Blk W (w.heap.size + 1) #[.int .i64 m, .int .i64 b, .int .i64 at'] 71 := by rw [hW]; have := Blk.new (w.alloc (.cells #[.slice a0 xs.length c0, .int .i64 L.stack, .slice a2 L.slots.length c2, .int .i64 L.flash, .int .i64 L.ram, .slice a5 ts.length c5] 36)) #[.int .i64 m, .int .i64 b, .int .i64 at'] 71; simpa using this
  have h1 := h.below hB
  have hL1 := hL.below hB
  obtain ⟨gp, op, rfl, q0, q1, q2, q3⟩ := hL1.p.at m.toNat (by omega)
  unfold svP at q1
  have hpx := hL1.p.2.1
  unfold maxLen at hpx
  have d0 : W.cell? ⟨w.heap.size, 0, none⟩ = some (.slice (some ⟨gp, op, none⟩) xs.length c0) := k0.cell 0
  have t0 : W.cell? ⟨w.heap.size + 1, 0, none⟩ = some (.int .i64 m) := k1.cell 0
  obtain ⟨P, hP⟩ : ∃ P, P = xs.getD m.toNat zPB := ⟨_, rfl⟩
  rw [← hP] at q0 q1 q2 q3 hpl hbb hwfo
  rw [← hpl] at hd
  obtain ⟨⟨tx, bk, dt, sz⟩, pa, pc⟩ := P
  dsimp only at q0 q1 q2 q3 hpl hbb hd
  have HP := hide hP
  obtain ⟨hd1, hd2, hd3, hd4⟩ := hd
  obtain ⟨st1, st2⟩ := hst
  obtain ⟨en1, en2⟩ := hen
  obtain ⟨q, hq⟩ : ∃ q, q = pcq (pmS ms) m b := ⟨_, rfl⟩
  have HQ := hide hq
  have HRS := hide (show plR (pmS ms) L m b s = (([] ++ rts true true false (cvL dt sz)) ++ rts true true false (cvL L.stack (endOf L - L.stack)) ++ rts false true false (cvL 131072 32)) ++ rts false false true (cvL (orgn L ((⟨tx, bk, dt, sz⟩, pa, pc) : PB) b s) (rnd (4 * q))) from by
    unfold plR
    rw [← hpl, hq]
    rfl)
  rw [HRS.out]
  rw [← hq] at hw hp
  clear HRS
  obtain ⟨V, hV⟩ : ∃ V, V = W.alloc (.cells #[.int .i64 tx, .slice pa bk.length pc, .int .i64 dt, .int .i64 sz] 138) := ⟨_, rfl⟩
  have bV : Below W.heap.size W V := by rw [hV]; exact (Below.refl _ _).alloc (Nat.le_refl _) _
  have kV : Blk V W.heap.size #[.int .i64 tx, .slice pa bk.length pc, .int .i64 dt, .int .i64 sz] 138 := by rw [hV]; exact Blk.new _ _ _
  have k0' := k0.below bV
  have k1' := k1.below bV
  have HBV := hide (hB.trans (bV.mono hB.size))
  have h2 := h1.below bV
  have hL2 := hL1.below bV
  have HW := hide hW
  have HV := hide hV
  have HM := hide h2
  have HL2 := hide hL2
  have HK0 := hide (And.intro k0' (And.intro k1' kV))
  clear hW hV k0 k1 h h1 hL hL1 hB bV k0' k1' kV hP hpl hq
  go_enter Tryz.func51, Tryz.ntmps51
  go_wp2_with (first | rw [← HW.out] | rw [← HV.out])
  obtain ⟨gm, om, rfl, v0, v1, v2, v3, v4, v5, v6, v7⟩ := HM.out.s.at m.toNat (by omega)
  have hmt := HM.out.s.2.2.2.1 m.toNat (by omega)
  have hqn : pcn (ms.getD m.toNat zMd).tn (ms.getD m.toNat zMd).bn (ms.getD m.toNat zMd).bl b = q := by
    rw [HQ.out, ← HPQ.out]; unfold pcm; rw [if_pos (by omega)]
  generalize ms.getD m.toNat zMd = M at *
  have HPC := hide (show ∀ X, Below V.heap.size V X → Calls Tryz.prog 133 #[.agg #[.string M.nm, .slice M.ta M.tn M.tc, .slice M.ba M.bn M.bc, .slice M.da M.dn M.dc, .int .i64 M.bss, .slice M.ra M.rn M.rc, .slice M.ia M.im M.ic, .slice M.ea M.en M.ec], .int .i64 b] X (fun e w' => ∃ xa xn xc, e = .returned (.tuple #[.slice xa xn xc, .bool true]) ∧ (xn : Int) = q ∧ Below V.heap.size V w') from fun X hX =>
    (l4Piece_any M.nm M.ta M.tn M.tc M.ba M.bn M.bc M.bl (.slice M.da M.dn M.dc) (.slice M.ra M.rn M.rc) (.slice M.ia M.im M.ic) (.slice M.ea M.en M.ec) M.bss b X hmt.t.2.1 (hmt.b.below hX)).mono fun e w' ⟨xa, xn, xc, ok, he, ho, hx, _, hb⟩ => by
      have ho' : ok = true := by rw [ho, hqn]; simp; omega
      exact ⟨xa, xn, xc, by rw [he, ho'], by rw [hx ho', hqn], hX.trans (hb.mono hX.size)⟩)
  obtain ⟨x0, x1, x2, x3, x4, x5⟩ := HK0.out.1.ly6
  have y0 : V.cell? ⟨w.heap.size + 1, 0, none⟩ = some (.int .i64 m) := HK0.out.2.1.cell 0
  have y1 : V.cell? ⟨w.heap.size + 1, 1, none⟩ = some (.int .i64 b) := HK0.out.2.1.cell 1
  have hmx := HM.out.s.2.1
  unfold maxLen at hmx
  have hmn : m < (n : Int) := by omega
  clear q0 q1 q2 q3 d0 t0 hmt hqn hlen hn
  go_region_held3 (fun w' => w'.cell? ⟨w.heap.size + 1, 0, none⟩ = some (.int .i64 m) ∧ w'.cell? ⟨w.heap.size + 1, 1, none⟩ = some (.int .i64 b) ∧ w'.cell? ⟨gm, om + m.toNat * 8, none⟩ = some (.string M.nm) ∧ w'.cell? ⟨gm, om + m.toNat * 8 + 1, none⟩ = some (.slice M.ta M.tn M.tc) ∧ w'.cell? ⟨gm, om + m.toNat * 8 + 2, none⟩ = some (.slice M.ba M.bn M.bc) ∧ w'.cell? ⟨gm, om + m.toNat * 8 + 3, none⟩ = some (.slice M.da M.dn M.dc) ∧ w'.cell? ⟨gm, om + m.toNat * 8 + 4, none⟩ = some (.int .i64 M.bss) ∧ w'.cell? ⟨gm, om + m.toNat * 8 + 5, none⟩ = some (.slice M.ra M.rn M.rc) ∧ w'.cell? ⟨gm, om + m.toNat * 8 + 6, none⟩ = some (.slice M.ia M.im M.ic) ∧ w'.cell? ⟨gm, om + m.toNat * 8 + 7, none⟩ = some (.slice M.ea M.en M.ec)) (go_keep)
    (first
      | (go_at_call 133; first
          | with_reducible refine (HPC.out _ (Below.refl _ _)).mono ?_
          | with_reducible refine (HPC.out _ (Below.refl _ _).drew).mono ?_
         rintro e w1 ⟨xa, xn, xc, rfl, hxn, hb1⟩
         have HB1 := hide hb1
         have HXN := hide hxn
         have C1 := (HK0.out.2.1.below hb1).cell 0
         have C2 := (HK0.out.2.1.below hb1).cell 1
         have u0 := cell_below hb1 v0
         have u1 := cell_below hb1 v1
         have u2 := cell_below hb1 v2
         have u3 := cell_below hb1 v3
         have u4 := cell_below hb1 v4
         have u5 := cell_below hb1 v5
         have u6 := cell_below hb1 v6
         have u7 := cell_below hb1 v7
         clear hb1 hxn))
  have HKX := hide (show ∀ X v rs, PlZ V X v rs → X.cell? ⟨W.heap.size, 2, none⟩ = some (.int .i64 dt) ∧ X.cell? ⟨W.heap.size, 3, none⟩ = some (.int .i64 sz) ∧ (X.cell? ⟨w.heap.size, 0, none⟩ = some (.slice (some ⟨gp, op, none⟩) xs.length c0) ∧ X.cell? ⟨w.heap.size, 1, none⟩ = some (.int .i64 L.stack) ∧ X.cell? ⟨w.heap.size, 2, none⟩ = some (.slice a2 L.slots.length c2) ∧ X.cell? ⟨w.heap.size, 3, none⟩ = some (.int .i64 L.flash) ∧ X.cell? ⟨w.heap.size, 4, none⟩ = some (.int .i64 L.ram) ∧ X.cell? ⟨w.heap.size, 5, none⟩ = some (.slice a5 ts.length c5)) ∧ X.cell? ⟨w.heap.size + 1, 0, none⟩ = some (.int .i64 m) ∧ X.cell? ⟨w.heap.size + 1, 1, none⟩ = some (.int .i64 b) ∧ X.cell? ⟨w.heap.size + 1, 2, none⟩ = some (.int .i64 at') from fun X v rs hz =>
    ⟨(HK0.out.2.2.below hz.b).cell 2, (HK0.out.2.2.below hz.b).cell 3, (HK0.out.1.below hz.b).ly6, (HK0.out.2.1.below hz.b).cell 0, (HK0.out.2.1.below hz.b).cell 1, (HK0.out.2.1.below hz.b).cell 2⟩)
  have HEN := hide (show ∀ X v rs, PlZ V X v rs → Calls Tryz.prog 131 #[.agg #[.slice (some ⟨gp, op, none⟩) xs.length c0, .int .i64 L.stack, .slice a2 L.slots.length c2, .int .i64 L.flash, .int .i64 L.ram, .slice a5 ts.length c5]] X (fun e w' => e = .returned (.int .i64 (endOf L)) ∧ PlZ V w' v rs) from fun X v rs hz => (l5Ends_any L (some ⟨gp, op, none⟩) c0 xs a2 c2 a5 c5 ts X (HL2.out.below hz.b)).mono fun e w' he => ⟨he.1, hz.below he.2⟩)
  have HOR := hide (show ∀ X v rs, PlZ V X v rs → Calls Tryz.prog 135 #[.agg #[.slice (some ⟨gp, op, none⟩) xs.length c0, .int .i64 L.stack, .slice a2 L.slots.length c2, .int .i64 L.flash, .int .i64 L.ram, .slice a5 ts.length c5], .agg #[.int .i64 m, .int .i64 b, .int .i64 at'], .int .i64 s] X (fun e w' => e = .returned (.int .i64 (orgn L ((⟨tx, bk, dt, sz⟩, pa, pc) : PB) b s)) ∧ PlZ V w' v rs) from fun X v rs hz => (l6Origin_any L (some ⟨gp, op, none⟩) c0 xs a2 c2 a5 c5 ts m b at' s X (HL2.out.below hz.b) m0 m1 (by rw [← HP.out]; exact hbb) hs).mono fun e w' he => ⟨by rw [HP.out]; exact he.1, hz.below he.2⟩)
  generalize hog : orgn L ((⟨tx, bk, dt, sz⟩, pa, pc) : PB) b s = og at *
  generalize hE : endOf L = E at *
  have HOG := hide hog
  have HE := hide hE
  clear hog hE
  have Z0 := hide (show PlZ V (w1.alloc (.cells #[] 158)) (.slice (some ⟨w1.heap.size, 0, none⟩) 0 0) [] from ⟨HB1.out.alloc HB1.out.size _, or_empty w1 V.heap.size HB1.out.size⟩)
  obtain ⟨X1, hX1⟩ : ∃ X1, X1 = w1.alloc (.cells #[] 158) := ⟨_, rfl⟩
  rw [← hX1] at Z0
  have HX1 := hide hX1
  clear hX1 u0 u1 u2 u3 u4 u5 u6 u7 C1 C2 v0 v1 v2 v3 v4 v5 v6 v7 x0 x1 x2 x3 x4 x5 y0 y1 HPC hbb hs hk
  obtain ⟨z2, z3, ⟨z4, z5, z6, z7, z8, z9⟩, z10, z11, z12⟩ := HKX.out _ _ _ Z0.out
  have HW1 := hide (l6With_z _ _ _ [] dt sz true true false X1 Z0.out (by unfold wfi; omega) (by unfold wfi; omega) (by omega))
  go_wp2_with (rw [← HX1.out])
  refine HW1.out.mono ?_
  rintro e X2 ⟨A1, k1, p1, rfl, hk1, hz⟩
  have Z1 := hide hz
  clear hz z2 z3 z4 z5 z6 z7 z8 z9 z10 z11 z12 Z0 HW1 HX1
  obtain ⟨z2, z3, ⟨z4, z5, z6, z7, z8, z9⟩, z10, z11, z12⟩ := HKX.out _ _ _ Z1.out
  have HWR := hide (show IntKind.i64.wrap (E - L.stack) = E - L.stack from cv_wrap (by omega) (by omega))
  have HW2 := hide (show ∀ X, PlZ V X (.slice A1 k1 p1) ([] ++ rts true true false (cvL dt sz)) → Calls Tryz.prog 134 #[.slice A1 k1 p1, .int .i64 L.stack, .int .i64 (IntKind.i64.wrap (E - L.stack)), .bool true, .bool true, .bool false] X fun e w' => ∃ A' m' cap', e = .returned (.slice A' m' cap') ∧ m' ≤ k1 + 8192 ∧ PlZ V w' (.slice A' m' cap') (([] ++ rts true true false (cvL dt sz)) ++ rts true true false (cvL L.stack (E - L.stack))) from fun X hX => by rw [HWR.out]; exact l6With_z A1 k1 p1 ([] ++ rts true true false (cvL dt sz)) L.stack (E - L.stack) true true false X hX (by unfold wfi; omega) (by unfold wfi; omega) (by omega))
  go_wp2_with fail
  go_region_held3 (fun w' => w'.cell? ⟨w.heap.size, 0, none⟩ = some (.slice (some ⟨gp, op, none⟩) xs.length c0) ∧ w'.cell? ⟨w.heap.size, 1, none⟩ = some (.int .i64 L.stack) ∧ w'.cell? ⟨w.heap.size, 2, none⟩ = some (.slice a2 L.slots.length c2) ∧ w'.cell? ⟨w.heap.size, 3, none⟩ = some (.int .i64 L.flash) ∧ w'.cell? ⟨w.heap.size, 4, none⟩ = some (.int .i64 L.ram) ∧ w'.cell? ⟨w.heap.size, 5, none⟩ = some (.slice a5 ts.length c5)) (go_keep)
    (first
      | (go_at_call 131; first
          | with_reducible refine (HEN.out _ _ _ Z1.out).mono ?_
          | with_reducible refine (HEN.out _ _ _ Z1.out.drew).mono ?_
         rintro e w3 ⟨rfl, hz3⟩
         have Z3 := hide hz3
         clear hz3
         obtain ⟨z2, z3, ⟨z4, z5, z6, z7, z8, z9⟩, z10, z11, z12⟩ := HKX.out _ _ _ Z3.out)
      | (go_at_call 134; first
          | with_reducible refine (HW2.out _ Z3.out).mono ?_
          | with_reducible refine (HW2.out _ Z3.out.drew).mono ?_
         rintro e X3 ⟨A2, k2, p2, rfl, hk2, hz⟩
         have Z2 := hide hz
         clear hz
         obtain ⟨z2, z3, ⟨z4, z5, z6, z7, z8, z9⟩, z10, z11, z12⟩ := HKX.out _ _ _ Z2.out))
  clear HW2 Z1 Z3
  have HW3 := hide (l6With_z A2 k2 p2 (([] ++ rts true true false (cvL dt sz)) ++ rts true true false (cvL L.stack (E - L.stack))) 131072 32 false true false X3 Z2.out (by unfold wfi; omega) (by unfold wfi; omega) (by omega))
  go_wp2_with fail
  refine HW3.out.mono ?_
  rintro e X4 ⟨A3, k3, p3, rfl, hk3, hz⟩
  have Z4 := hide hz
  clear hz Z2 HW3 z2 z3 z4 z5 z6 z7 z8 z9 z10 z11 z12
  obtain ⟨z2, z3, ⟨z4, z5, z6, z7, z8, z9⟩, z10, z11, z12⟩ := HKX.out _ _ _ Z4.out
  have hx2 : (xn : Int) ≤ 200 := by rw [HXN.out]; exact hw.2
  have HRD := hide (fun (X : World) => l5Round_any (4 * (xn : Int)) X (by omega) (by omega))
  go_wp2_with fail
  refine (HOR.out _ _ _ Z4.out).mono ?_
  rintro e X5 ⟨rfl, hz⟩
  have Z5 := hide hz
  clear hz Z4
  go_wp2_with fail
  refine (HRD.out _).mono ?_
  rintro e X6 ⟨rfl, rfl⟩
  have hrd := rnd_range (x := 4 * (xn : Int)) (by omega)
  have HW4 := hide (l6With_z A3 k3 p3 ((([] ++ rts true true false (cvL dt sz)) ++ rts true true false (cvL L.stack (E - L.stack))) ++ rts false true false (cvL 131072 32)) og (rnd (4 * (xn : Int))) false false true _ Z5.out hwfo (by unfold wfi; omega) (by omega))
  have HRR := hide (show rnd (4 * q) = rnd (4 * (xn : Int)) by rw [HXN.out])
  generalize rnd (4 * (xn : Int)) = rr at *
  go_wp2_with fail
  refine HW4.out.mono ?_
  rintro e X7 ⟨A4, k4, p4, rfl, hk4, hz⟩
  have Z7 := hide hz
  clear hz
  go_wp2
  go_ret
  exact ⟨A4, k4, p4, rfl, by have e := HRR.out; have e2 := HE.out; have e3 := HOG.out; rw [e, e2, e3]; exact org_mono Z7.out.o HBV.out.size, HBV.out.trans (Z7.out.b.mono HBV.out.size)⟩
end Go.Proofs.YtngdgogjlpjjpaeGreat

namespace Go.Proofs.YtngdgogjlpjjpaeGreat
open Go.RowKit
set_option linter.unusedVariables false
set_option linter.unusedSimpArgs false
set_option maxRecDepth 100000

/-- WHAT planOf GIVES -/
def PoPost (w : World) (R : List Rg) (e : Ending) (w' : World) : Prop :=
  ∃ A k c, e = .returned (.tuple #[.slice A k c, .bool (decide (R.length ≤ 8))]) ∧ ORg w' w.heap.size (.slice A k c) (if R.length ≤ 8 then R else []) ∧ Below w.heap.size w w'
theorem po_ok {w V X : World} {A : Option Addr} {k c : Nat} {R : List Rg} (hV : Below w.heap.size w V) (h : k = R.length ∧ ORg X V.heap.size (.slice A k c) R ∧ Below V.heap.size V X) (h8 : k ≤ 8) : PoPost w R (.returned (.tuple #[.slice A k c, .bool true])) X := by
  have e : R.length ≤ 8 := by omega
  refine ⟨A, k, c, by rw [decide_eq_true e], by rw [if_pos e]; exact org_mono h.2.1 hV.size, hV.trans (h.2.2.mono hV.size)⟩
theorem po_no {w V X : World} {A : Option Addr} {k c : Nat} {R : List Rg} (hV : Below w.heap.size w V) (h : k = R.length ∧ ORg X V.heap.size (.slice A k c) R ∧ Below V.heap.size V X) (h8 : ¬ k ≤ 8) : PoPost w R (.returned (.tuple #[.slice none 0 0, .bool false])) X := by
  have e : ¬ R.length ≤ 8 := by omega
  refine ⟨none, 0, 0, by rw [decide_eq_false e], by rw [if_neg e]; exact org_nil _ _, hV.trans (h.2.2.mono hV.size)⟩
set_option maxHeartbeats 4000000 in
theorem planOf_any (a : Option Addr) (n cap : Nat) (ms : List Md) (L : Lay) (a0 : Option Addr) (c0 : Nat) (xs : List PB) (a2 : Option Addr) (c2 : Nat) (a5 : Option Addr) (c5 : Nat) (ts : List TB) (m b at' s : Int) (w : World) (h : MSD w a n cap ms) (hL : LyT w L a0 c0 xs a2 c2 a5 c5 ts)
    (hk : Lok (pmS ms) L) (hp : 0 ≤ pcq (pmS ms) m b) (hs : s = -1 ∨ (b ≠ -1 ∧ 0 ≤ s ∧ s < (L.slots.length : Int))) :
    Calls Tryz.prog 102 #[.slice a n cap, .agg #[.slice a0 xs.length c0, .int .i64 L.stack, .slice a2 L.slots.length c2, .int .i64 L.flash, .int .i64 L.ram, .slice a5 ts.length c5], .agg #[.int .i64 m, .int .i64 b, .int .i64 at'], .int .i64 s] w (PoPost w (plR (pmS ms) L m b s)) := by
  have K := pkn_of (s := s) hL hk hp
  have hn := h.s.1
  have hlen := pmS_len ms
  obtain ⟨m0, m1, m2, hpl, hbb, hw, hd, hst, hen⟩ := K
  have hwfo : wfi (orgn L (xs.getD m.toNat zPB) b s) := orgn_wfi hL hk hp hs
  have HPQ := hide (pcm_pcq h m b)
  obtain ⟨W, hW⟩ : ∃ W, W = (w.alloc (.cells #[.slice a0 xs.length c0, .int .i64 L.stack, .slice a2 L.slots.length c2, .int .i64 L.flash, .int .i64 L.ram, .slice a5 ts.length c5] 36)).alloc (.cells #[.int .i64 m, .int .i64 b, .int .i64 at'] 71) := ⟨_, rfl⟩
  have hB : Below w.heap.size w W := by rw [hW]; exact ((Below.refl _ _).alloc (Nat.le_refl _) _).alloc (by simp) _
  have k0 : Blk W w.heap.size #[.slice a0 xs.length c0, .int .i64 L.stack, .slice a2 L.slots.length c2, .int .i64 L.flash, .int .i64 L.ram, .slice a5 ts.length c5] 36 := by rw [hW]; exact (Blk.new w _ _).alloc _
  have k1 : Blk W (w.heap.size + 1) #[.int .i64 m, .int .i64 b, .int .i64 at'] 71 := by rw [hW]; have := Blk.new (w.alloc (.cells #[.slice a0 xs.length c0, .int .i64 L.stack, .slice a2 L.slots.length c2, .int .i64 L.flash, .int .i64 L.ram, .slice a5 ts.length c5] 36)) #[.int .i64 m, .int .i64 b, .int .i64 at'] 71; simpa using this
  have h1 := h.below hB
  have hL1 := hL.below hB
  obtain ⟨gp, op, rfl, q0, q1, q2, q3⟩ := hL1.p.at m.toNat (by omega)
  unfold svP at q1
  have hpx := hL1.p.2.1
  unfold maxLen at hpx
  have d0 : W.cell? ⟨w.heap.size, 0, none⟩ = some (.slice (some ⟨gp, op, none⟩) xs.length c0) := k0.cell 0
  have t0 : W.cell? ⟨w.heap.size + 1, 0, none⟩ = some (.int .i64 m) := k1.cell 0
  obtain ⟨P, hP⟩ : ∃ P, P = xs.getD m.toNat zPB := ⟨_, rfl⟩
  rw [← hP] at q0 q1 q2 q3 hpl hbb hwfo
  rw [← hpl] at hd
  obtain ⟨⟨tx, bk, dt, sz⟩, pa, pc⟩ := P
  dsimp only at q0 q1 q2 q3 hpl hbb hd
  have HP := hide hP
  obtain ⟨hd1, hd2, hd3, hd4⟩ := hd
  obtain ⟨st1, st2⟩ := hst
  obtain ⟨en1, en2⟩ := hen
  obtain ⟨q, hq⟩ : ∃ q, q = pcq (pmS ms) m b := ⟨_, rfl⟩
  have HQ := hide hq
  have HRS := hide (show plR (pmS ms) L m b s = (([] ++ rts true true false (cvL dt sz)) ++ rts true true false (cvL L.stack (endOf L - L.stack)) ++ rts false true false (cvL 131072 32)) ++ rts false false true (cvL (orgn L ((⟨tx, bk, dt, sz⟩, pa, pc) : PB) b s) (rnd (4 * q))) from by
    unfold plR
    rw [← hpl, hq]
    rfl)
  rw [HRS.out]
  rw [← hq] at hw hp
  clear HRS
  obtain ⟨V, hV⟩ : ∃ V, V = W.alloc (.cells #[.int .i64 tx, .slice pa bk.length pc, .int .i64 dt, .int .i64 sz] 138) := ⟨_, rfl⟩
  have bV : Below W.heap.size W V := by rw [hV]; exact (Below.refl _ _).alloc (Nat.le_refl _) _
  have kV : Blk V W.heap.size #[.int .i64 tx, .slice pa bk.length pc, .int .i64 dt, .int .i64 sz] 138 := by rw [hV]; exact Blk.new _ _ _
  have k0' := k0.below bV
  have k1' := k1.below bV
  have HBV := hide (hB.trans (bV.mono hB.size))
  have h2 := h1.below bV
  have hL2 := hL1.below bV
  have HW := hide hW
  have HV := hide hV
  have HM := hide h2
  have HL2 := hide hL2
  have HK0 := hide (And.intro k0' (And.intro k1' kV))
  clear hW hV k0 k1 h h1 hL hL1 hB bV k0' k1' kV hP hpl hq
  go_enter Tryz.func102, Tryz.ntmps102
  go_wp2_with (first | rw [← HW.out] | rw [← HV.out])
  obtain ⟨gm, om, rfl, v0, v1, v2, v3, v4, v5, v6, v7⟩ := HM.out.s.at m.toNat (by omega)
  have hmt := HM.out.s.2.2.2.1 m.toNat (by omega)
  have hqn : pcn (ms.getD m.toNat zMd).tn (ms.getD m.toNat zMd).bn (ms.getD m.toNat zMd).bl b = q := by
    rw [HQ.out, ← HPQ.out]; unfold pcm; rw [if_pos (by omega)]
  generalize ms.getD m.toNat zMd = M at *
  have HPC := hide (show ∀ X, Below V.heap.size V X → Calls Tryz.prog 182 #[.agg #[.string M.nm, .slice M.ta M.tn M.tc, .slice M.ba M.bn M.bc, .slice M.da M.dn M.dc, .int .i64 M.bss, .slice M.ra M.rn M.rc, .slice M.ia M.im M.ic, .slice M.ea M.en M.ec], .int .i64 b] X (fun e w' => ∃ xa xn xc, e = .returned (.tuple #[.slice xa xn xc, .bool true]) ∧ (xn : Int) = q ∧ Below V.heap.size V w') from fun X hX =>
    (pieceOf_any M.nm M.ta M.tn M.tc M.ba M.bn M.bc M.bl (.slice M.da M.dn M.dc) (.slice M.ra M.rn M.rc) (.slice M.ia M.im M.ic) (.slice M.ea M.en M.ec) M.bss b X hmt.t.2.1 (hmt.b.below hX)).mono fun e w' ⟨xa, xn, xc, ok, he, ho, hx, _, hb⟩ => by
      have ho' : ok = true := by rw [ho, hqn]; simp; omega
      exact ⟨xa, xn, xc, by rw [he, ho'], by rw [hx ho', hqn], hX.trans (hb.mono hX.size)⟩)
  obtain ⟨x0, x1, x2, x3, x4, x5⟩ := HK0.out.1.ly6
  have y0 : V.cell? ⟨w.heap.size + 1, 0, none⟩ = some (.int .i64 m) := HK0.out.2.1.cell 0
  have y1 : V.cell? ⟨w.heap.size + 1, 1, none⟩ = some (.int .i64 b) := HK0.out.2.1.cell 1
  have hmx := HM.out.s.2.1
  unfold maxLen at hmx
  have hmn : m < (n : Int) := by omega
  clear q0 q1 q2 q3 d0 t0 hmt hqn hlen hn
  go_region_held3 (fun w' => w'.cell? ⟨w.heap.size + 1, 0, none⟩ = some (.int .i64 m) ∧ w'.cell? ⟨w.heap.size + 1, 1, none⟩ = some (.int .i64 b) ∧ w'.cell? ⟨gm, om + m.toNat * 8, none⟩ = some (.string M.nm) ∧ w'.cell? ⟨gm, om + m.toNat * 8 + 1, none⟩ = some (.slice M.ta M.tn M.tc) ∧ w'.cell? ⟨gm, om + m.toNat * 8 + 2, none⟩ = some (.slice M.ba M.bn M.bc) ∧ w'.cell? ⟨gm, om + m.toNat * 8 + 3, none⟩ = some (.slice M.da M.dn M.dc) ∧ w'.cell? ⟨gm, om + m.toNat * 8 + 4, none⟩ = some (.int .i64 M.bss) ∧ w'.cell? ⟨gm, om + m.toNat * 8 + 5, none⟩ = some (.slice M.ra M.rn M.rc) ∧ w'.cell? ⟨gm, om + m.toNat * 8 + 6, none⟩ = some (.slice M.ia M.im M.ic) ∧ w'.cell? ⟨gm, om + m.toNat * 8 + 7, none⟩ = some (.slice M.ea M.en M.ec)) (go_keep)
    (first
      | (go_at_call 182; first
          | with_reducible refine (HPC.out _ (Below.refl _ _)).mono ?_
          | with_reducible refine (HPC.out _ (Below.refl _ _).drew).mono ?_
         rintro e w1 ⟨xa, xn, xc, rfl, hxn, hb1⟩
         have HB1 := hide hb1
         have HXN := hide hxn
         have C1 := (HK0.out.2.1.below hb1).cell 0
         have C2 := (HK0.out.2.1.below hb1).cell 1
         have u0 := cell_below hb1 v0
         have u1 := cell_below hb1 v1
         have u2 := cell_below hb1 v2
         have u3 := cell_below hb1 v3
         have u4 := cell_below hb1 v4
         have u5 := cell_below hb1 v5
         have u6 := cell_below hb1 v6
         have u7 := cell_below hb1 v7
         clear hb1 hxn))
  have HKX := hide (show ∀ X, Below V.heap.size V X → X.cell? ⟨W.heap.size, 2, none⟩ = some (.int .i64 dt) ∧ X.cell? ⟨W.heap.size, 3, none⟩ = some (.int .i64 sz) ∧ (X.cell? ⟨w.heap.size, 0, none⟩ = some (.slice (some ⟨gp, op, none⟩) xs.length c0) ∧ X.cell? ⟨w.heap.size, 1, none⟩ = some (.int .i64 L.stack) ∧ X.cell? ⟨w.heap.size, 2, none⟩ = some (.slice a2 L.slots.length c2) ∧ X.cell? ⟨w.heap.size, 3, none⟩ = some (.int .i64 L.flash) ∧ X.cell? ⟨w.heap.size, 4, none⟩ = some (.int .i64 L.ram) ∧ X.cell? ⟨w.heap.size, 5, none⟩ = some (.slice a5 ts.length c5)) ∧ X.cell? ⟨w.heap.size + 1, 0, none⟩ = some (.int .i64 m) ∧ X.cell? ⟨w.heap.size + 1, 1, none⟩ = some (.int .i64 b) ∧ X.cell? ⟨w.heap.size + 1, 2, none⟩ = some (.int .i64 at') from fun X hz =>
    ⟨(HK0.out.2.2.below hz).cell 2, (HK0.out.2.2.below hz).cell 3, (HK0.out.1.below hz).ly6, (HK0.out.2.1.below hz).cell 0, (HK0.out.2.1.below hz).cell 1, (HK0.out.2.1.below hz).cell 2⟩)
  have HSE := hide (show ∀ X, Below V.heap.size V X → Calls Tryz.prog 185 #[.agg #[.slice (some ⟨gp, op, none⟩) xs.length c0, .int .i64 L.stack, .slice a2 L.slots.length c2, .int .i64 L.flash, .int .i64 L.ram, .slice a5 ts.length c5]] X (fun e w' => e = .returned (.int .i64 (endOf L)) ∧ Below V.heap.size V w') from fun X hz => (stackEnd_any L (some ⟨gp, op, none⟩) c0 xs a2 c2 a5 c5 ts X (HL2.out.below hz)).mono fun e w' he => ⟨he.1, hz.trans (he.2.mono hz.size)⟩)
  have HOR := hide (show ∀ X, Below V.heap.size V X → Calls Tryz.prog 186 #[.agg #[.slice (some ⟨gp, op, none⟩) xs.length c0, .int .i64 L.stack, .slice a2 L.slots.length c2, .int .i64 L.flash, .int .i64 L.ram, .slice a5 ts.length c5], .agg #[.int .i64 m, .int .i64 b, .int .i64 at'], .int .i64 s] X (fun e w' => e = .returned (.int .i64 (orgn L ((⟨tx, bk, dt, sz⟩, pa, pc) : PB) b s)) ∧ Below V.heap.size V w') from fun X hz => (originOf_any L (some ⟨gp, op, none⟩) c0 xs a2 c2 a5 c5 ts m b at' s X (HL2.out.below hz) m0 m1 (by rw [← HP.out]; exact hbb) hs).mono fun e w' he => ⟨by rw [HP.out]; exact he.1, hz.trans (he.2.mono hz.size)⟩)
  have hx2 : (xn : Int) ≤ 200 := by rw [HXN.out]; exact hw.2
  have HWB := hide (fun (X : World) => wordBytes_any xa xn xc X (by omega))
  have hrd := rnd_range (x := 4 * (xn : Int)) (by omega)
  have HRR := hide (show rnd (4 * q) = rnd (4 * (xn : Int)) by rw [HXN.out])
  generalize hog : orgn L ((⟨tx, bk, dt, sz⟩, pa, pc) : PB) b s = og at *
  generalize hE : endOf L = E at *
  generalize rnd (4 * (xn : Int)) = rr at *
  have HOG := hide hog
  have HE := hide hE
  have HWR := hide (show IntKind.i64.wrap (E - L.stack) = E - L.stack from cv_wrap (by omega) (by omega))
  have HJ := hide (show ∀ X, Below V.heap.size V X → Calls Tryz.prog 184 #[.slice (some ⟨X.heap.size, 0, none⟩) 4 4] (X.alloc (.cells #[.int .i64 dt, .int .i64 sz, .bool true, .bool true, .bool false, .int .i64 L.stack, .int .i64 (IntKind.i64.wrap (E - L.stack)), .bool true, .bool true, .bool false, .int .i64 131072, .int .i64 32, .bool false, .bool true, .bool false, .int .i64 og, .int .i64 rr, .bool false, .bool false, .bool true] 232)) (fun e w' => ∃ A k c, e = .returned (.slice A k c) ∧ k = ((([] ++ rts true true false (cvL dt sz)) ++ rts true true false (cvL L.stack (E - L.stack)) ++ rts false true false (cvL 131072 32)) ++ rts false false true (cvL og rr)).length ∧ ORg w' V.heap.size (.slice A k c) ((([] ++ rts true true false (cvL dt sz)) ++ rts true true false (cvL L.stack (E - L.stack)) ++ rts false true false (cvL 131072 32)) ++ rts false false true (cvL og rr)) ∧ Below V.heap.size V w') from fun X hX => by
    have KB := Blk.new X #[.int .i64 dt, .int .i64 sz, .bool true, .bool true, .bool false, .int .i64 L.stack, .int .i64 (IntKind.i64.wrap (E - L.stack)), .bool true, .bool true, .bool false, .int .i64 131072, .int .i64 32, .bool false, .bool true, .bool false, .int .i64 og, .int .i64 rr, .bool false, .bool false, .bool true] 232
    have BX : Below V.heap.size V (X.alloc (.cells #[.int .i64 dt, .int .i64 sz, .bool true, .bool true, .bool false, .int .i64 L.stack, .int .i64 (IntKind.i64.wrap (E - L.stack)), .bool true, .bool true, .bool false, .int .i64 131072, .int .i64 32, .bool false, .bool true, .bool false, .int .i64 og, .int .i64 rr, .bool false, .bool false, .bool true] 232)) := hX.alloc hX.size _
    rw [HWR.out] at KB BX ⊢
    refine (joined_any X.heap.size 0 4 4 [(dt, sz, true, true, false), (L.stack, E - L.stack, true, true, false), (131072, 32, false, true, false), (og, rr, false, false, true)] _ rfl (Nat.le_refl _) ?_ ?_).mono ?_
    · intro i hi
      match i with
      | 0 => exact ⟨by unfold wfi; simp; omega, by unfold wfi; simp; omega⟩
      | 1 => exact ⟨by unfold wfi; simp; omega, by unfold wfi; simp; omega⟩
      | 2 => exact ⟨by unfold wfi; simp, by unfold wfi; simp⟩
      | 3 => exact ⟨hwfo, by unfold wfi; simp; omega⟩
    · intro i hi
      match i with
      | 0 => exact ⟨KB.cell 0, KB.cell 1, KB.cell 2, KB.cell 3, KB.cell 4⟩
      | 1 => exact ⟨KB.cell 5, KB.cell 6, KB.cell 7, KB.cell 8, KB.cell 9⟩
      | 2 => exact ⟨KB.cell 10, KB.cell 11, KB.cell 12, KB.cell 13, KB.cell 14⟩
      | 3 => exact ⟨KB.cell 15, KB.cell 16, KB.cell 17, KB.cell 18, KB.cell 19⟩
    · rintro e w' ⟨A, k, c, rfl, hk, ho, hb⟩
      have er : ([(dt, sz, true, true, false), (L.stack, E - L.stack, true, true, false), (131072, 32, false, true, false), (og, rr, false, false, true)] : List Spn).flatMap spR = (([] ++ rts true true false (cvL dt sz)) ++ rts true true false (cvL L.stack (E - L.stack)) ++ rts false true false (cvL 131072 32)) ++ rts false false true (cvL og rr) := by simp [spR]
      rw [er] at hk ho
      exact ⟨A, k, c, rfl, hk, org_mono ho BX.size, BX.trans (hb.mono BX.size)⟩)
  clear hog hE u0 u1 u2 u3 u4 u5 u6 u7 C1 C2 v0 v1 v2 v3 v4 v5 v6 v7 x0 x1 x2 x3 x4 x5 y0 y1 HPC hbb hs hk
  obtain ⟨z2, z3, ⟨z4, z5, z6, z7, z8, z9⟩, z10, z11, z12⟩ := HKX.out _ HB1.out
  go_wp2_with fail
  go_region_held3 (fun w' => w'.cell? ⟨W.heap.size, 2, none⟩ = some (.int .i64 dt) ∧ w'.cell? ⟨W.heap.size, 3, none⟩ = some (.int .i64 sz) ∧ w'.cell? ⟨w.heap.size, 0, none⟩ = some (.slice (some ⟨gp, op, none⟩) xs.length c0) ∧ w'.cell? ⟨w.heap.size, 1, none⟩ = some (.int .i64 L.stack) ∧ w'.cell? ⟨w.heap.size, 2, none⟩ = some (.slice a2 L.slots.length c2) ∧ w'.cell? ⟨w.heap.size, 3, none⟩ = some (.int .i64 L.flash) ∧ w'.cell? ⟨w.heap.size, 4, none⟩ = some (.int .i64 L.ram) ∧ w'.cell? ⟨w.heap.size, 5, none⟩ = some (.slice a5 ts.length c5) ∧ w'.cell? ⟨w.heap.size + 1, 0, none⟩ = some (.int .i64 m) ∧ w'.cell? ⟨w.heap.size + 1, 1, none⟩ = some (.int .i64 b) ∧ w'.cell? ⟨w.heap.size + 1, 2, none⟩ = some (.int .i64 at')) (go_keep)
    (first
      | (go_at_call 185; first
          | with_reducible refine (HSE.out _ HB1.out).mono ?_
          | with_reducible refine (HSE.out _ HB1.out.drew).mono ?_
         rintro e w3 ⟨rfl, hb3⟩
         have HB3 := hide hb3
         clear hb3
         obtain ⟨z2, z3, ⟨z4, z5, z6, z7, z8, z9⟩, z10, z11, z12⟩ := HKX.out _ HB3.out)
      | (go_at_call 186; first
          | with_reducible refine (HOR.out _ HB3.out).mono ?_
          | with_reducible refine (HOR.out _ HB3.out.drew).mono ?_
         rintro e w4 ⟨rfl, hb4⟩
         have HB4 := hide hb4
         clear hb4
         obtain ⟨z2, z3, ⟨z4, z5, z6, z7, z8, z9⟩, z10, z11, z12⟩ := HKX.out _ HB4.out)
      | (go_at_call 187; with_reducible refine (HWB.out _).mono ?_; rintro e w5 ⟨rfl, rfl⟩)
      | (go_at_call 184; first
          | with_reducible refine (HJ.out _ HB4.out).mono ?_
          | with_reducible refine (HJ.out _ HB4.out.drew).mono ?_
         rintro e w6 ⟨A, k, c, rfl, hk6, ho6, hb6⟩
         have HB6 := hide (And.intro hk6 (And.intro ho6 hb6))
         clear hk6 ho6 hb6
         obtain ⟨z2, z3, ⟨z4, z5, z6, z7, z8, z9⟩, z10, z11, z12⟩ := HKX.out _ HB6.out.2.2))
  have HF := hide (And.intro HBV.out HB6.out)
  clear HB6 HB1 HB3 HB4 z2 z3 z4 z5 z6 z7 z8 z9 z10 z11 z12
  rw [List.nil_append] at HF
  by_cases h8 : k ≤ 8
  · have h8' : (k : Int) ≤ 8 := by omega
    have HX := hide (po_ok HF.out.1 HF.out.2 h8)
    rw [← HRR.out] at HX
    clear HF
    go_wp2
    go_ret2
    first
      | exact HX.out
      | (have hx := HX.out
         simp only [List.append_assoc] at hx
         exact hx)
  · have h8' : ¬ (k : Int) ≤ 8 := by omega
    have h8'' : (8 : Int) < (k : Int) := by omega
    have HX := hide (po_no HF.out.1 HF.out.2 h8)
    rw [← HRR.out] at HX
    clear HF
    go_wp2
    go_ret2
    first
      | exact HX.out
      | (have hx := HX.out
         simp only [List.append_assoc] at hx
         exact hx)
end Go.Proofs.YtngdgogjlpjjpaeGreat

namespace Go.Proofs.YtngdgogjlpjjpaeGreat
open Go.RowKit
set_option linter.unusedVariables false
set_option linter.unusedSimpArgs false
set_option maxRecDepth 100000

/-- WHETHER THERE IS A PLAN, and its regions -/
def pnO (ps : List PMod) (L : Lay) (m b s : Int) : Bool := decide (Lok ps L) && decide (0 ≤ pcq ps m b) && decide (sOk L b s) && decide ((plR ps L m b s).length ≤ 8)
def pnV (ps : List PMod) (L : Lay) (m b s : Int) : List Rg := if pnO ps L m b s = true then plR ps L m b s else []
/-- WHAT Plan GIVES -/
def PnPost (w : World) (ps : List PMod) (L : Lay) (m b s : Int) (e : Ending) (w' : World) : Prop :=
  ∃ A k c, e = .returned (.tuple #[.slice A k c, .bool (pnO ps L m b s)]) ∧ ORg w' w.heap.size (.slice A k c) (pnV ps L m b s) ∧ Below w.heap.size w w'
theorem pn_no {w X : World} {ps : List PMod} {L : Lay} {m b s : Int} {A : Option Addr} {k c : Nat} (hB : Below w.heap.size w X) (ho : ORg X w.heap.size (.slice A k c) []) (h : ¬ (Lok ps L ∧ 0 ≤ pcq ps m b ∧ sOk L b s ∧ (plR ps L m b s).length ≤ 8)) : PnPost w ps L m b s (.returned (.tuple #[.slice A k c, .bool false])) X := by
  have e : pnO ps L m b s = false := by
    cases e : pnO ps L m b s
    · rfl
    · unfold pnO at e
      simp only [Bool.and_eq_true, decide_eq_true_eq] at e
      exact absurd ⟨e.1.1.1, e.1.1.2, e.1.2, e.2⟩ h
  exact ⟨A, k, c, by rw [e], by unfold pnV; rw [e]; exact ho, hB⟩
theorem pn_ok {w X : World} {ps : List PMod} {L : Lay} {m b s : Int} {A : Option Addr} {k c : Nat} (hB : Below w.heap.size w X) (ho : ORg X w.heap.size (.slice A k c) (plR ps L m b s)) (h1 : Lok ps L) (h2 : 0 ≤ pcq ps m b) (h3 : sOk L b s) (h4 : k ≤ 8) : PnPost w ps L m b s (.returned (.tuple #[.slice A k c, .bool true])) X := by
  have h5 : (plR ps L m b s).length ≤ 8 := by rw [(or_rs ho).1]; exact h4
  have e : pnO ps L m b s = true := by
    unfold pnO
    simp only [Bool.and_eq_true, decide_eq_true_eq]
    exact ⟨⟨⟨h1, h2⟩, h3⟩, h5⟩
  exact ⟨A, k, c, by rw [e], by unfold pnV; rw [e]; exact ho, hB⟩
set_option maxHeartbeats 4000000 in
theorem sPlan_any (a : Option Addr) (n cap : Nat) (ms : List Md) (L : Lay) (a0 : Option Addr) (c0 : Nat) (xs : List PB) (a2 : Option Addr) (c2 : Nat) (a5 : Option Addr) (c5 : Nat) (ts : List TB) (m b at' s : Int) (w : World) (h : MSD w a n cap ms) (hL : LyT w L a0 c0 xs a2 c2 a5 c5 ts) :
    Calls Tryz.prog 29 #[.slice a n cap, .agg #[.slice a0 xs.length c0, .int .i64 L.stack, .slice a2 L.slots.length c2, .int .i64 L.flash, .int .i64 L.ram, .slice a5 ts.length c5], .agg #[.int .i64 m, .int .i64 b, .int .i64 at'], .int .i64 s] w (PnPost w (pmS ms) L m b s) := by
  obtain ⟨W, hW⟩ : ∃ W, W = (w.alloc (.cells #[.slice a0 xs.length c0, .int .i64 L.stack, .slice a2 L.slots.length c2, .int .i64 L.flash, .int .i64 L.ram, .slice a5 ts.length c5] 36)).alloc (.cells #[.int .i64 m, .int .i64 b, .int .i64 at'] 71) := ⟨_, rfl⟩
  have hB : Below w.heap.size w W := by rw [hW]; exact ((Below.refl _ _).alloc (Nat.le_refl _) _).alloc (by simp) _
  have k0 : Blk W w.heap.size #[.slice a0 xs.length c0, .int .i64 L.stack, .slice a2 L.slots.length c2, .int .i64 L.flash, .int .i64 L.ram, .slice a5 ts.length c5] 36 := by rw [hW]; exact (Blk.new w _ _).alloc _
  have k1 : Blk W (w.heap.size + 1) #[.int .i64 m, .int .i64 b, .int .i64 at'] 71 := by rw [hW]; have := Blk.new (w.alloc (.cells #[.slice a0 xs.length c0, .int .i64 L.stack, .slice a2 L.slots.length c2, .int .i64 L.flash, .int .i64 L.ram, .slice a5 ts.length c5] 36)) #[.int .i64 m, .int .i64 b, .int .i64 at'] 71; simpa using this
  obtain ⟨V, hV⟩ : ∃ V, V = W.alloc (.cells #[] 158) := ⟨_, rfl⟩
  have bV : Below W.heap.size W V := by rw [hV]; exact (Below.refl _ _).alloc (Nat.le_refl _) _
  have hBV := hB.trans (bV.mono hB.size)
  have HNIL := hide (show ORg V w.heap.size (.slice (some ⟨W.heap.size, 0, none⟩) 0 0) [] by rw [hV]; exact or_empty W w.heap.size hB.size)
  have HBV := hide hBV
  have HK0 := hide (And.intro (k0.below bV) (k1.below bV))
  have HM := hide (h.below hBV)
  have HL2 := hide (hL.below hBV)
  have HW := hide hW
  have HV := hide hV
  have HKX := hide (show ∀ X, Below V.heap.size V X → (X.cell? ⟨w.heap.size, 0, none⟩ = some (.slice a0 xs.length c0) ∧ X.cell? ⟨w.heap.size, 1, none⟩ = some (.int .i64 L.stack) ∧ X.cell? ⟨w.heap.size, 2, none⟩ = some (.slice a2 L.slots.length c2) ∧ X.cell? ⟨w.heap.size, 3, none⟩ = some (.int .i64 L.flash) ∧ X.cell? ⟨w.heap.size, 4, none⟩ = some (.int .i64 L.ram) ∧ X.cell? ⟨w.heap.size, 5, none⟩ = some (.slice a5 ts.length c5)) ∧ X.cell? ⟨w.heap.size + 1, 0, none⟩ = some (.int .i64 m) ∧ X.cell? ⟨w.heap.size + 1, 1, none⟩ = some (.int .i64 b) ∧ X.cell? ⟨w.heap.size + 1, 2, none⟩ = some (.int .i64 at') from fun X hz =>
    ⟨(HK0.out.1.below hz).ly6, (HK0.out.2.below hz).cell 0, (HK0.out.2.below hz).cell 1, (HK0.out.2.below hz).cell 2⟩)
  have HX := hide (show ∀ X, Below V.heap.size V X → ORg X w.heap.size (.slice (some ⟨W.heap.size, 0, none⟩) 0 0) [] ∧ Below w.heap.size w X from fun X hz => ⟨turn_or' (turn_below hz) HNIL.out (fun _ _ h => h), HBV.out.trans (hz.mono HBV.out.size)⟩)
  have HR := hide (show Calls Tryz.prog 50 #[.slice a n cap, .agg #[.slice a0 xs.length c0, .int .i64 L.stack, .slice a2 L.slots.length c2, .int .i64 L.flash, .int .i64 L.ram, .slice a5 ts.length c5]] V (fun e w' => e = .returned (.bool (decide (Lok (pmS ms) L))) ∧ Below V.heap.size V w') from l5Real_any a n cap ms L a0 c0 xs a2 c2 a5 c5 ts V HM.out HL2.out)
  have HT := hide (show ∀ X, Below V.heap.size V X → Calls Tryz.prog 98 #[.slice a n cap, .int .i64 m, .int .i64 b] X (fun e w' => e = .returned (.bool (decide (0 ≤ pcq (pmS ms) m b))) ∧ Below V.heap.size V w') from fun X hz => (l6There_any a n cap ms m b X (HM.out.below hz).s).mono fun e w' he => ⟨by rw [← pcm_pcq HM.out]; exact he.1, hz.trans (he.2.mono hz.size)⟩)
  have hsl := hL.s.2.1
  unfold maxLen at hsl
  have HSE := hide (show L.slots = [] ↔ L.slots.length = 0 from List.length_eq_zero_iff.symm)
  clear hW hV k0 k1 h hL hB bV hBV
  obtain ⟨⟨z4, z5, z6, z7, z8, z9⟩, z10, z11, z12⟩ := HKX.out _ (Below.refl _ _)
  by_cases c1 : Lok (pmS ms) L
  · rw [decide_eq_true c1] at HR
    by_cases c2' : 0 ≤ pcq (pmS ms) m b
    · rw [decide_eq_true c2'] at HT
      have HPL0 := hide (show (s = -1 ∨ (b ≠ -1 ∧ 0 ≤ s ∧ s < (L.slots.length : Int))) → ∀ X, Below V.heap.size V X → Calls Tryz.prog 51 #[.slice a n cap, .agg #[.slice a0 xs.length c0, .int .i64 L.stack, .slice a2 L.slots.length c2, .int .i64 L.flash, .int .i64 L.ram, .slice a5 ts.length c5], .agg #[.int .i64 m, .int .i64 b, .int .i64 at'], .int .i64 s] X (fun e w' => ∃ A k c, e = .returned (.slice A k c) ∧ ORg w' X.heap.size (.slice A k c) (plR (pmS ms) L m b s) ∧ Below X.heap.size X w') from fun hf X hz => l6Plan_any a n cap ms L a0 c0 xs a2 c2 a5 c5 ts m b at' s X (HM.out.below hz) (HL2.out.below hz) c1 c2' hf)
      by_cases c3 : sOk L b s
      · have HC := hide (And.intro c1 (And.intro c2' c3))
        have HPL := hide (HPL0.out c3.fit)
        have hc3 := c3
        unfold sOk at hc3
        clear c1 c2' c3 HPL0
        by_cases cb : b = -1
        · rw [if_pos (.inl cb)] at hc3
          have hb1 : (b == -1) = true := by simpa using cb
          have hs1 : (s != -1) = false := by simp [hc3]
          subst cb
          subst hc3
          go_enter Tryz.func29, Tryz.ntmps29
          go_wp2_with (first | rw [← HW.out] | rw [← HV.out])
          refine HR.out.mono ?_
          rintro e X1 ⟨rfl, hb1⟩
          have HB1 := hide hb1
          clear hb1 z4 z5 z6 z7 z8 z9 z10 z11 z12
          obtain ⟨⟨z4, z5, z6, z7, z8, z9⟩, z10, z11, z12⟩ := HKX.out _ HB1.out
          go_wp2_with fail
          refine (HT.out _ HB1.out).mono ?_
          rintro e X2 ⟨rfl, hb2⟩
          have HB2 := hide hb2
          clear hb2 z4 z5 z6 z7 z8 z9 z10 z11 z12
          obtain ⟨⟨z4, z5, z6, z7, z8, z9⟩, z10, z11, z12⟩ := HKX.out _ HB2.out
          go_wp2_with fail
          refine (HPL.out _ HB2.out).mono ?_
          rintro e X3 ⟨A, k, c, rfl, ho, hb3⟩
          have HB3 := hide hb3
          have HO := hide ho
          clear ho hb3 z4 z5 z6 z7 z8 z9 z10 z11 z12
          by_cases h8 : k ≤ 8
          · have h8' : (k : Int) ≤ 8 := by omega
            go_wp2
            go_ret2
            exact pn_ok ((HX.out _ HB2.out).2.trans (HB3.out.mono (HX.out _ HB2.out).2.size)) (org_mono HO.out (HX.out _ HB2.out).2.size) HC.out.1 HC.out.2.1 HC.out.2.2 h8
          · have h8' : (8 : Int) < (k : Int) := by omega
            have HQ := hide (HX.out _ (HB2.out.trans (HB3.out.mono HB2.out.size)))
            have HK := hide h8
            go_wp2
            go_ret2
            exact pn_no HQ.out.2 HQ.out.1 (fun h => HK.out (by have := (or_rs HO.out).1; omega))
        · have hb1 : (b == -1) = false := by simpa using cb
          by_cases cl : L.slots = []
          · rw [if_pos (.inr cl)] at hc3
            have hl : L.slots.length = 0 := HSE.out.1 cl
            rw [hl] at HR HPL z6 HKX HW ⊢
            subst hc3
            clear cl
            go_enter Tryz.func29, Tryz.ntmps29
            go_wp2_with (first | rw [← HW.out] | rw [← HV.out])
            refine HR.out.mono ?_
            rintro e X1 ⟨rfl, hb1⟩
            have HB1 := hide hb1
            clear hb1 z4 z5 z6 z7 z8 z9 z10 z11 z12
            obtain ⟨⟨z4, z5, z6, z7, z8, z9⟩, z10, z11, z12⟩ := HKX.out _ HB1.out
            go_wp2_with fail
            refine (HT.out _ HB1.out).mono ?_
            rintro e X2 ⟨rfl, hb2⟩
            have HB2 := hide hb2
            clear hb2 z4 z5 z6 z7 z8 z9 z10 z11 z12
            obtain ⟨⟨z4, z5, z6, z7, z8, z9⟩, z10, z11, z12⟩ := HKX.out _ HB2.out
            go_wp2_with fail
            refine (HPL.out _ HB2.out).mono ?_
            rintro e X3 ⟨A, k, c, rfl, ho, hb3⟩
            have HB3 := hide hb3
            have HO := hide ho
            clear ho hb3 z4 z5 z6 z7 z8 z9 z10 z11 z12
            by_cases h8 : k ≤ 8
            · have h8' : (k : Int) ≤ 8 := by omega
              go_wp2
              go_ret2
              exact pn_ok ((HX.out _ HB2.out).2.trans (HB3.out.mono (HX.out _ HB2.out).2.size)) (org_mono HO.out (HX.out _ HB2.out).2.size) HC.out.1 HC.out.2.1 HC.out.2.2 h8
            · have h8' : (8 : Int) < (k : Int) := by omega
              have HQ := hide (HX.out _ (HB2.out.trans (HB3.out.mono HB2.out.size)))
              have HK := hide h8
              go_wp2
              go_ret2
              exact pn_no HQ.out.2 HQ.out.1 (fun h => HK.out (by have := (or_rs HO.out).1; omega))
          · rw [if_neg (fun h => h.elim cb cl)] at hc3
            have hl : ¬ L.slots.length = 0 := fun h => cl (HSE.out.2 h)
            have hl0 : ((L.slots.length : Int) == 0) = false := by simpa using hl
            have hs0 : ¬ s < 0 := by omega
            have hs0' : 0 ≤ s := hc3.1
            have hs1 : s < (L.slots.length : Int) := hc3.2
            clear hc3 cl hl
            generalize hlg : L.slots.length = l at *
            clear hlg
            go_enter Tryz.func29, Tryz.ntmps29
            go_wp2_with (first | rw [← HW.out] | rw [← HV.out])
            refine HR.out.mono ?_
            rintro e X1 ⟨rfl, hb1⟩
            have HB1 := hide hb1
            clear hb1 z4 z5 z6 z7 z8 z9 z10 z11 z12
            obtain ⟨⟨z4, z5, z6, z7, z8, z9⟩, z10, z11, z12⟩ := HKX.out _ HB1.out
            go_wp2_with fail
            refine (HT.out _ HB1.out).mono ?_
            rintro e X2 ⟨rfl, hb2⟩
            have HB2 := hide hb2
            clear hb2 z4 z5 z6 z7 z8 z9 z10 z11 z12
            obtain ⟨⟨z4, z5, z6, z7, z8, z9⟩, z10, z11, z12⟩ := HKX.out _ HB2.out
            go_wp2_with fail
            refine (HPL.out _ HB2.out).mono ?_
            rintro e X3 ⟨A, k, c, rfl, ho, hb3⟩
            have HB3 := hide hb3
            have HO := hide ho
            clear ho hb3 z4 z5 z6 z7 z8 z9 z10 z11 z12
            by_cases h8 : k ≤ 8
            · have h8' : (k : Int) ≤ 8 := by omega
              go_wp2
              go_ret2
              exact pn_ok ((HX.out _ HB2.out).2.trans (HB3.out.mono (HX.out _ HB2.out).2.size)) (org_mono HO.out (HX.out _ HB2.out).2.size) HC.out.1 HC.out.2.1 HC.out.2.2 h8
            · have h8' : (8 : Int) < (k : Int) := by omega
              have HQ := hide (HX.out _ (HB2.out.trans (HB3.out.mono HB2.out.size)))
              have HK := hide h8
              go_wp2
              go_ret2
              exact pn_no HQ.out.2 HQ.out.1 (fun h => HK.out (by have := (or_rs HO.out).1; omega))
      · have HNO := hide c3
        have hc3 := c3
        unfold sOk at hc3
        clear c1 c2' c3 HPL0
        by_cases cb : b = -1
        · rw [if_pos (.inl cb)] at hc3
          have hb1 : (b == -1) = true := by simpa using cb
          have hs1 : (s != -1) = true := by simpa using hc3
          have hs2 : (s == -1) = false := by simpa using hc3
          subst cb
          clear hc3
          go_enter Tryz.func29, Tryz.ntmps29
          go_wp2_with (first | rw [← HW.out] | rw [← HV.out])
          refine HR.out.mono ?_
          rintro e X1 ⟨rfl, hb1⟩
          have HB1 := hide hb1
          clear hb1 z4 z5 z6 z7 z8 z9 z10 z11 z12
          obtain ⟨⟨z4, z5, z6, z7, z8, z9⟩, z10, z11, z12⟩ := HKX.out _ HB1.out
          go_wp2_with fail
          refine (HT.out _ HB1.out).mono ?_
          rintro e X2 ⟨rfl, hb2⟩
          have HB2 := hide hb2
          clear hb2 z4 z5 z6 z7 z8 z9 z10 z11 z12
          obtain ⟨⟨z4, z5, z6, z7, z8, z9⟩, z10, z11, z12⟩ := HKX.out _ HB2.out
          go_wp2
          go_ret2
          exact pn_no (HX.out _ HB2.out).2 (HX.out _ HB2.out).1 (fun h => HNO.out h.2.2.1)
        · have hb1 : (b == -1) = false := by simpa using cb
          by_cases cl : L.slots = []
          · rw [if_pos (.inr cl)] at hc3
            have hs1 : (s != -1) = true := by simpa using hc3
            have hs2 : (s == -1) = false := by simpa using hc3
            have hl : L.slots.length = 0 := HSE.out.1 cl
            rw [hl] at HR z6 HKX HW ⊢
            clear cl hc3
            go_enter Tryz.func29, Tryz.ntmps29
            go_wp2_with (first | rw [← HW.out] | rw [← HV.out])
            refine HR.out.mono ?_
            rintro e X1 ⟨rfl, hb1⟩
            have HB1 := hide hb1
            clear hb1 z4 z5 z6 z7 z8 z9 z10 z11 z12
            obtain ⟨⟨z4, z5, z6, z7, z8, z9⟩, z10, z11, z12⟩ := HKX.out _ HB1.out
            go_wp2_with fail
            refine (HT.out _ HB1.out).mono ?_
            rintro e X2 ⟨rfl, hb2⟩
            have HB2 := hide hb2
            clear hb2 z4 z5 z6 z7 z8 z9 z10 z11 z12
            obtain ⟨⟨z4, z5, z6, z7, z8, z9⟩, z10, z11, z12⟩ := HKX.out _ HB2.out
            go_wp2
            go_ret2
            exact pn_no (HX.out _ HB2.out).2 (HX.out _ HB2.out).1 (fun h => HNO.out h.2.2.1)
          · rw [if_neg (fun h => h.elim cb cl)] at hc3
            have hl : ¬ L.slots.length = 0 := fun h => cl (HSE.out.2 h)
            have hl0 : ((L.slots.length : Int) == 0) = false := by simpa using hl
            by_cases hs0 : s < 0
            · clear hc3 cl hl
              generalize hlg : L.slots.length = l at *
              clear hlg
              go_enter Tryz.func29, Tryz.ntmps29
              go_wp2_with (first | rw [← HW.out] | rw [← HV.out])
              refine HR.out.mono ?_
              rintro e X1 ⟨rfl, hb1⟩
              have HB1 := hide hb1
              clear hb1 z4 z5 z6 z7 z8 z9 z10 z11 z12
              obtain ⟨⟨z4, z5, z6, z7, z8, z9⟩, z10, z11, z12⟩ := HKX.out _ HB1.out
              go_wp2_with fail
              refine (HT.out _ HB1.out).mono ?_
              rintro e X2 ⟨rfl, hb2⟩
              have HB2 := hide hb2
              clear hb2 z4 z5 z6 z7 z8 z9 z10 z11 z12
              obtain ⟨⟨z4, z5, z6, z7, z8, z9⟩, z10, z11, z12⟩ := HKX.out _ HB2.out
              go_wp2
              go_ret2
              exact pn_no (HX.out _ HB2.out).2 (HX.out _ HB2.out).1 (fun h => HNO.out h.2.2.1)
            · have hs0' : 0 ≤ s := by omega
              have hs1 : (L.slots.length : Int) ≤ s := by omega
              clear hc3 cl hl
              generalize hlg : L.slots.length = l at *
              clear hlg
              go_enter Tryz.func29, Tryz.ntmps29
              go_wp2_with (first | rw [← HW.out] | rw [← HV.out])
              refine HR.out.mono ?_
              rintro e X1 ⟨rfl, hb1⟩
              have HB1 := hide hb1
              clear hb1 z4 z5 z6 z7 z8 z9 z10 z11 z12
              obtain ⟨⟨z4, z5, z6, z7, z8, z9⟩, z10, z11, z12⟩ := HKX.out _ HB1.out
              go_wp2_with fail
              refine (HT.out _ HB1.out).mono ?_
              rintro e X2 ⟨rfl, hb2⟩
              have HB2 := hide hb2
              clear hb2 z4 z5 z6 z7 z8 z9 z10 z11 z12
              obtain ⟨⟨z4, z5, z6, z7, z8, z9⟩, z10, z11, z12⟩ := HKX.out _ HB2.out
              go_wp2
              go_ret2
              exact pn_no (HX.out _ HB2.out).2 (HX.out _ HB2.out).1 (fun h => HNO.out h.2.2.1)
    · rw [decide_eq_false c2'] at HT
      have HC := hide c2'
      clear c1 c2'
      go_enter Tryz.func29, Tryz.ntmps29
      go_wp2_with (first | rw [← HW.out] | rw [← HV.out])
      refine HR.out.mono ?_
      rintro e X1 ⟨rfl, hb1⟩
      have HB1 := hide hb1
      clear hb1 z4 z5 z6 z7 z8 z9 z10 z11 z12
      obtain ⟨⟨z4, z5, z6, z7, z8, z9⟩, z10, z11, z12⟩ := HKX.out _ HB1.out
      go_wp2_with fail
      refine (HT.out _ HB1.out).mono ?_
      rintro e X2 ⟨rfl, hb2⟩
      have HB2 := hide hb2
      clear hb2
      go_wp2
      go_ret2
      exact pn_no (HX.out _ HB2.out).2 (HX.out _ HB2.out).1 (fun h => absurd h.2.1 (by have := HC.out; omega))
  · rw [decide_eq_false c1] at HR
    have HC := hide c1
    clear c1
    go_enter Tryz.func29, Tryz.ntmps29
    go_wp2_with (first | rw [← HW.out] | rw [← HV.out])
    refine HR.out.mono ?_
    rintro e X1 ⟨rfl, hb1⟩
    have HB1 := hide hb1
    clear hb1
    go_wp2
    go_ret2
    exact pn_no (HX.out _ HB1.out).2 (HX.out _ HB1.out).1 (fun h => HC.out h.1)
end Go.Proofs.YtngdgogjlpjjpaeGreat
