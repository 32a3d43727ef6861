import Derived.Test.YtngdgogjlpjjpaeGreatGa31
import Derived.Test.YtngdgogjlpjjpaeGreatGa02
import Derived.Test.YtngdgogjlpjjpaeGreatGa01
import Derived.Deep.OwnRows
import Derived.Test.YtngdgogjlpjjpaeGreatGa15
import Derived.Test.YtngdgogjlpjjpaeGreatGa25
namespace Go.Proofs.YtngdgogjlpjjpaeGreat
open Go.RowKit Classical
set_option linter.unusedVariables false
set_option linter.unusedSimpArgs false
set_option maxRecDepth 100000

theorem only_trans {g : Nat} {a b c : World} (h : Only g a b) (k : Only g b c) : Only g a c := ⟨k.1.trans h.1, fun j hj => (k.2.1 j hj).trans (h.2.1 j hj), k.2.2.1.trans h.2.2.1, k.2.2.2.1.trans h.2.2.2.1, k.2.2.2.2.trans h.2.2.2.2⟩
theorem only_turn' {g : Nat} {w w' : World} (h : Only g w w') : Turn (fun j => j = g) w w' := ⟨h.2.2.1, h.2.2.2.1, h.2.2.2.2, by rw [h.1]; exact Nat.le_refl _, fun k hk hn => h.2.1 k hn⟩
/-- THE FIRST i WORDS at a place -/
def pour (zs : List Int) (k : Nat) (ws : List Int) : Nat → List Int
  | 0 => zs
  | i + 1 => put (pour zs k ws i) (k + 4 * i) (ws.getD i 0) 4
theorem pour_len (zs : List Int) (k : Nat) (ws : List Int) : ∀ i, (pour zs k ws i).length = zs.length
  | 0 => rfl
  | i + 1 => by rw [pour, put_len, pour_len zs k ws i]

set_option maxHeartbeats 2000000 in
theorem l5Pour_any (g n cap k : Nat) (a : Option Addr) (wn wc : Nat) (ws zs : List Int) (base : Nat) (w0 w : World) (h0 : IS w0 a wn wc ws) (hb : Below w0.heap.size w0 w) (hg : w0.heap.size ≤ g) (ho : OB w base (.slice (some ⟨g, 0, none⟩) n cap) zs) (hn : n ≤ 16384) (hk : k + 4 * wn ≤ n) (hw : ∀ i, i < wn → 0 ≤ ws.getD i 0 ∧ ws.getD i 0 ≤ 4294967295) :
    Calls Tryz.prog 82 #[.slice (some ⟨g, 0, none⟩) n cap, .int .i64 k, .slice a wn wc] w fun e w' => e = .returned (.tuple #[]) ∧ OB w' base (.slice (some ⟨g, 0, none⟩) n cap) (pour zs k ws wn) ∧ Only g w w' := by
  have HO := hide ho
  have HB := hide hb
  clear ho hb
  go_enter Tryz.func82, Tryz.ntmps82
  go_wp2
  go_loopw [6] (fun i wr => ∃ m : Nat, m ≤ wn ∧ i = .int .i64 m ∧ OB wr base (.slice (some ⟨g, 0, none⟩) n cap) (pour zs k ws m) ∧ Only g w wr) (fun i _ => wn - (intOf i).toNat)
  case atStart => exact ⟨0, Nat.zero_le _, rfl, HO.out, only_refl _ _⟩
  case round =>
    obtain ⟨m, hm, rfl, O, T⟩ := hrel
    by_cases hlt : m < wn
    · have hlt' : (m : Int) < (wn : Int) := by omega
      obtain ⟨b, off, rfl, hc⟩ := (h0.below (only_below HB.out T hg)).2.2.2.1 (by omega)
      have q := hc m hlt
      obtain ⟨v0, v1⟩ := hw m hlt
      have HP := hide (l1Put_any g n cap (k + 4 * m) 4 (ws.getD m 0) wr (ob_room O) hn (by omega) (by omega) (by omega) v0 v1)
      have HX := hide (And.intro (ob_put O (k + 4 * m) (ws.getD m 0) 4 (by omega)) (only_trans T (only_put g (k + 4 * m) (ws.getD m 0) wr 4)))
      have HE := hide (show pour zs k ws (m + 1) = put (pour zs k ws m) (k + 4 * m) (ws.getD m 0) 4 from rfl)
      have hkm : ((k + 4 * m : Nat) : Int) = (k : Int) + 4 * (m : Int) := by omega
      rw [hkm] at HP
      clear O T hc
      generalize ws.getD m 0 = v at *
      go_wp2_with fail
      refine HP.out.mono ?_
      rintro e w1 ⟨rfl, rfl⟩
      go_wp2
      go_roundw
      case rel => exact ⟨m + 1, by omega, by go_num, by rw [HE.out]; exact HX.out.1, HX.out.2⟩
      case measure => simp [intOf]; omega
    · have e : Hid (m = wn) := by show m = wn; omega
      have HX := hide (And.intro O T)
      clear O T
      go_wp2
      go_end0
      exact ⟨rfl, by have := HX.out.1; rw [e.out] at this; exact this, HX.out.2⟩

set_option maxHeartbeats 2000000 in
theorem putWords_any (g n cap k m c : Nat) (a : Option Addr) (wn wc : Nat) (ws zs : List Int) (base : Nat) (w0 w : World) (h0 : IS w0 a wn wc ws) (hb : Below w0.heap.size w0 w) (hg : w0.heap.size ≤ g) (ho : OB w base (.slice (some ⟨g, 0, none⟩) n cap) zs) (hn : n ≤ 16384) (hk : k + 4 * wn ≤ n) (hm : 4 * wn ≤ m) (hc : m ≤ c) (hc2 : c ≤ 16384) :
    Calls Tryz.prog 178 #[.slice (some ⟨g, k, none⟩) m c, .slice a wn wc] w fun e w' => e = .returned (.tuple #[]) ∧ OB w' base (.slice (some ⟨g, 0, none⟩) n cap) (pour zs k ws wn) ∧ Only g w w' := by
  have HO := hide ho
  have HB := hide hb
  clear ho hb
  go_enter Tryz.func178, Tryz.ntmps178
  go_wp2
  go_loopw [8] (fun i wr => ∃ j : Nat, j ≤ wn ∧ i = .int .i64 j ∧ OB wr base (.slice (some ⟨g, 0, none⟩) n cap) (pour zs k ws j) ∧ Only g w wr) (fun i _ => wn - (intOf i).toNat)
  case atStart => exact ⟨0, Nat.zero_le _, rfl, HO.out, only_refl _ _⟩
  case round =>
    obtain ⟨j, hj, rfl, O, T⟩ := hrel
    by_cases hlt : j < wn
    · have hlt' : (j : Int) < (wn : Int) := by omega
      obtain ⟨b, off, rfl, hcc⟩ := (h0.below (only_below HB.out T hg)).2.2.2.1 (by omega)
      have q := hcc j hlt
      have wv : -9223372036854775808 ≤ ws.getD j 0 ∧ ws.getD j 0 ≤ 9223372036854775807 := h0.2.2.1 _ (by have := h0.1; simp [List.getD_eq_getElem?_getD, show j < ws.length by omega])
      have HP := hide (putBytes_4 g (m - 4 * j) (c - 4 * j) (k + 4 * j) (ws.getD j 0) wr (ob_room2 O (by omega)) (by omega) wv)
      have HX := hide (And.intro (ob_putD4 O (k + 4 * j) (ws.getD j 0) (by omega)) (only_trans T (only_putD4 g (k + 4 * j) (ws.getD j 0) wr)))
      have HE := hide (show pour zs k ws (j + 1) = put (pour zs k ws j) (k + 4 * j) (ws.getD j 0) 4 from rfl)
      have t0 : (0 : Int) ≤ 4 * (j : Int) := by omega
      have t1 : 4 * (j : Int) ≤ (m : Int) := by omega
      have t2 : 4 * (j : Int) < (c : Int) := by omega
      have t3 : (4 * (j : Int)).toNat = 4 * j := by omega
      clear O T hcc wv
      generalize ws.getD j 0 = v at *
      go_wp2_with fail
      refine HP.out.mono ?_
      rintro e w1 ⟨rfl, rfl⟩
      go_wp2
      go_roundw
      case rel => exact ⟨j + 1, by omega, by go_num, by rw [HE.out]; exact HX.out.1, HX.out.2⟩
      case measure => simp [intOf]; omega
    · have e : Hid (j = wn) := by show j = wn; omega
      have HX := hide (And.intro O T)
      clear O T
      go_wp2
      go_end0
      exact ⟨rfl, by have := HX.out.1; rw [e.out] at this; exact this, HX.out.2⟩
end Go.Proofs.YtngdgogjlpjjpaeGreat

namespace Go.Proofs.YtngdgogjlpjjpaeGreat
open Go.RowKit Classical
set_option linter.unusedVariables false
set_option linter.unusedSimpArgs false
set_option maxRecDepth 100000

/-- cells of zero -/
def zby (n : Nat) : Array Value := ((List.replicate n (0:Int)).map (Value.int .u8)).toArray
theorem make8 (n : Nat) (hn : n ≤ 16384) (W : World) : (Instr.makeSlice 41 (.int .i64 (n : Int)) (.int .i64 (n : Int))).run Tryz.prog W = .ok (.slice (some ⟨W.heap.size, 0, none⟩) n n) (W.alloc (.cells (zby n) 5)) := by
  rw [run_make_row' 41 5 (.int .u8 0) 1 Tryz.underlying41 info8 rfl .i64 .i64 n (by omega) (by omega) W]
  have := made8 n
  rw [Nat.mul_one] at this
  unfold zby
  rw [← this]
  rfl
theorem zby_ob {W : World} {g base n : Nat} (h : Blk W g (zby n) 5) (hg : base ≤ g) (hn : n ≤ 16384) : OB W base (.slice (some ⟨g, 0, none⟩) n n) (List.replicate n 0) := by
  refine ⟨⟨by simp, .inr ⟨g, n, zby n, by simp, hg, h, by simp, by unfold maxLen; omega, by simp [zby], ?_⟩⟩, fun z hz => by have := List.eq_of_mem_replicate hz; omega⟩
  unfold zby
  simp only [List.toList_toArray, List.length_replicate, Nat.mul_one]
  exact List.take_of_length_le (by simp)
/-- the words of a module at its place -/
def pourB (zs : List Int) (P : PMod) (p : Pl) : Nat → List Int
  | 0 => pour zs p.text.toNat P.tz P.tz.length
  | j + 1 => pour (pourB zs P p j) (p.banks.getD j 0).toNat (P.bl.getD j []) (P.bl.getD j []).length
theorem pourB_len (zs : List Int) (P : PMod) (p : Pl) : ∀ j, (pourB zs P p j).length = zs.length
  | 0 => pour_len _ _ _ _
  | j + 1 => by rw [pourB, pour_len, pourB_len zs P p j]
/-- FLASH behind the first modules -/
def flB (ps : List PMod) (L : Lay) : Nat → List Int
  | 0 => List.replicate L.flash.toNat 0
  | i + 1 => pourB (flB ps L i) (ps.getD i zP) (L.places.getD i zPB.1) (ps.getD i zP).bl.length
/-- the words that are moved -/
def relB (zs : List Int) (f : Nat) (rz : List Int) (d : Int) : Nat → List Int
  | 0 => zs
  | j + 1 => put (relB zs f rz d j) (f + (rz.getD j 0).toNat) (low (((relB zs f rz d j).drop (f + (rz.getD j 0).toNat)).take 4) + d) 4
theorem relB_len (zs : List Int) (f : Nat) (rz : List Int) (d : Int) : ∀ j, (relB zs f rz d j).length = zs.length
  | 0 => rfl
  | j + 1 => by rw [relB, put_len, relB_len zs f rz d j]
/-- data laid over -/
def ovr (zs : List Int) (f : Nat) (ds : List Int) : List Int := zs.take f ++ (ds ++ zs.drop (f + ds.length))
theorem ovr_len (zs : List Int) (f : Nat) (ds : List Int) (h : f + ds.length ≤ zs.length) : (ovr zs f ds).length = zs.length := by simp [ovr]; omega
/-- RAM behind the first modules -/
def raB (ps : List PMod) (L : Lay) : Nat → List Int
  | 0 => List.replicate L.ram.toNat 0
  | i + 1 => relB (ovr (raB ps L i) ((L.places.getD i zPB.1).data - 65536).toNat (ps.getD i zP).dz) ((L.places.getD i zPB.1).data - 65536).toNat (ps.getD i zP).rz (L.places.getD i zPB.1).data (ps.getD i zP).rz.length
theorem flB_len (ps : List PMod) (L : Lay) : ∀ i, (flB ps L i).length = L.flash.toNat
  | 0 => by simp [flB]
  | i + 1 => by rw [flB, pourB_len, flB_len ps L i]
theorem lkc_big {ps : List PMod} {s w k d : Int} (h : lkc ps s w k d = 0) : (lay ps s w k).flash ≤ 16384 ∧ (lay ps s w k).ram ≤ 16384 := by
  unfold lkc at h
  split at h
  · rename_i h1; exact absurd h h1
  split at h
  · exact absurd h (by decide)
  split at h
  · exact absurd h (by decide)
  split at h
  · exact absurd h (by decide)
  split at h
  · exact absurd h (by decide)
  rename_i h1 h2
  omega
theorem Fl_mono {ps : List PMod} (hv : vlds ps) : ∀ i j, i ≤ j → j ≤ ps.length → Fl ps i ≤ Fl ps j
  | i, 0, h, _ => by have : i = 0 := by omega
                     subst this; exact Int.le_refl _
  | i, j + 1, h, hj => by
    by_cases e : i = j + 1
    · subst e; exact Int.le_refl _
    · have h1 := Fl_mono hv i j (by omega) (by omega)
      have hm := hv j (by omega)
      have h2 := tsz_range hm
      have h3 := fsum_range hm _ (Nat.le_refl _)
      show Fl ps i ≤ Fl ps j + (tsz (ps.getD j zP) + fsum (ps.getD j zP) (ps.getD j zP).bl.length)
      omega
theorem Ra_mono {ps : List PMod} (hv : vlds ps) : ∀ i j, i ≤ j → j ≤ ps.length → Ra ps i ≤ Ra ps j
  | i, 0, h, _ => by have : i = 0 := by omega
                     subst this; exact Int.le_refl _
  | i, j + 1, h, hj => by
    by_cases e : i = j + 1
    · subst e; exact Int.le_refl _
    · have h1 := Ra_mono hv i j (by omega) (by omega)
      have h2 := dsz_range (hv j (by omega))
      show Ra ps i ≤ Ra ps j + dsz (ps.getD j zP)
      omega
theorem fsum_mono {P : PMod} (hv : mdoP P = 0) : ∀ i j, i ≤ j → j ≤ P.bl.length → fsum P i ≤ fsum P j
  | i, 0, h, _ => by have : i = 0 := by omega
                     subst this; exact Int.le_refl _
  | i, j + 1, h, hj => by
    by_cases e : i = j + 1
    · subst e; exact Int.le_refl _
    · have h1 := fsum_mono hv i j (by omega) (by omega)
      have h2 := rnd_range (x := 4 * ((P.bl.getD j []).length : Int)) (by omega)
      show fsum P i ≤ fsum P j + rnd (4 * ((P.bl.getD j []).length : Int))
      omega
/-- WHAT IS KNOWN OF A LAYOUT that some configuration gives -/
structure Lkn (ps : List PMod) (L : Lay) : Prop where
  n : 1 ≤ ps.length ∧ ps.length ≤ 4
  v : vlds ps
  im : imps ps
  pl : L.places = (List.range ps.length).map (plc ps)
  fl : L.flash = Fl ps ps.length
  fr : 0 ≤ L.flash ∧ L.flash ≤ 16384
  ra : Ra ps ps.length ≤ L.ram
  rr : 0 ≤ L.ram ∧ L.ram ≤ 16384
  tg : L.targets = (List.range ps.length).map fun i => tgs ps (ps.getD i zP)
  st : L.stack = 65536 + Ra ps ps.length
theorem lok_kn {ps : List PMod} {L : Lay} (h : Lok ps L) : Lkn ps L := by
  obtain ⟨h1, h2⟩ := h
  have e : lay ps (L.slots.length : Int) (cfW L) (cfK L) = L := by unfold lkL at h2; rw [if_pos h1] at h2; exact h2
  obtain ⟨hc, n1, n2, hv, hi⟩ := lkc_facts h1
  obtain ⟨b1, b2⟩ := lkc_big h1
  unfold cfo at hc
  simp at hc
  have a1 := Fl_range hv ps.length (Nat.le_refl _)
  have a2 := Ra_range hv ps.length (Nat.le_refl _)
  have a3 : (0 : Int) ≤ ((L.slots.length : Int).toNat : Int) * rnd (4 * cfW L) := Int.mul_nonneg (by omega) (by have := rnd_range (x := 4 * cfW L) (by omega); omega)
  have e1 : L.flash = Fl ps ps.length := by rw [← e]; rfl
  have e2 : L.ram = Ra ps ps.length + cfK L + ((L.slots.length : Int).toNat : Int) * rnd (4 * cfW L) := by
    have := congrArg Lay.ram e
    rw [← this]; rfl
  rw [e] at b1 b2
  exact ⟨⟨n1, n2⟩, hv, hi, by rw [← e]; rfl, e1, ⟨by omega, b1⟩, by omega, ⟨by omega, b2⟩, by rw [← e]; rfl, by have := congrArg Lay.stack e; rw [← this]; rfl⟩
theorem Lkn.place {ps : List PMod} {L : Lay} (h : Lkn ps L) (i : Nat) (hi : i < ps.length) : L.places.getD i zPB.1 = plc ps i := by
  rw [h.pl]
  simp [List.getD_eq_getElem?_getD, hi]
theorem vld_rl {P : PMod} (h : mdoP P = 0) : ∀ j, j < P.rz.length → 0 ≤ P.rz.getD j 0 ∧ P.rz.getD j 0 + 4 ≤ (P.dz.length : Int) := by
  unfold mdoP mdo at h
  split at h
  · exact absurd h (by decide)
  split at h
  · exact absurd h (by decide)
  split at h
  · exact absurd h (by decide)
  split at h
  · exact absurd h (by decide)
  rename_i h1 h2 h3 h4
  intro j hj
  have h5 : rlo P.rz.length P.rz P.dz.length = true := by simpa using h4
  unfold rlo at h5
  rw [Bool.and_eq_true, List.all_eq_true] at h5
  have h6 := h5.2 j (by simpa using hj)
  unfold rlk at h6
  rw [decide_eq_true_eq] at h6
  omega
theorem getD_mem {α : Type} (l : List α) (i : Nat) (z : α) (h : i < l.length) : l.getD i z ∈ l := by simp [List.getD_eq_getElem?_getD, h]
theorem range_getD {α : Type} (f : Nat → α) (n j : Nat) (z : α) (h : j < n) : ((List.range n).map f).getD j z = f j := by simp [List.getD_eq_getElem?_getD, h]
theorem vld_wd {P : PMod} (h : mdoP P = 0) : (∀ i, i < P.tz.length → 0 ≤ P.tz.getD i 0 ∧ P.tz.getD i 0 ≤ 4294967295) ∧ ∀ k, k < P.bl.length → ∀ i, i < (P.bl.getD k []).length → 0 ≤ (P.bl.getD k []).getD i 0 ∧ (P.bl.getD k []).getD i 0 ≤ 4294967295 := by
  unfold mdoP at h
  have V := vm_of_mdo (by simp [bkOf]) h
  refine ⟨fun i hi => V.tw _ (by simp [List.getD_eq_getElem?_getD, hi]), fun k hk i hi => ?_⟩
  have := (V.bw k (by simp [bkOf]; exact hk)).2 ((P.bl.getD k []).getD i 0) (by
    have e : ((bkOf P.bl).getD k zB).2.2.2 = P.bl.getD k [] := by simp [bkOf, List.getD_eq_getElem?_getD, hk]
    rw [e]
    exact getD_mem _ _ _ hi)
  exact this
/-- where a module's things lie -/
theorem Lkn.at {ps : List PMod} {L : Lay} (h : Lkn ps L) (i : Nat) (hi : i < ps.length) :
    (0 ≤ (plc ps i).text ∧ (plc ps i).text + 4 * ((ps.getD i zP).tz.length : Int) ≤ L.flash) ∧ (plc ps i).banks.length = (ps.getD i zP).bl.length ∧ (∀ j, j < (ps.getD i zP).bl.length → 0 ≤ (plc ps i).banks.getD j 0 ∧ (plc ps i).banks.getD j 0 + 4 * (((ps.getD i zP).bl.getD j []).length : Int) ≤ L.flash) ∧ (65536 ≤ (plc ps i).data ∧ (plc ps i).data - 65536 + ((ps.getD i zP).dz.length : Int) ≤ L.ram) := by
  have hm := h.v i hi
  have a1 := Fl_range h.v i (by omega)
  have a2 := Fl_mono h.v (i + 1) ps.length (by omega) (Nat.le_refl _)
  have a3 : Fl ps (i + 1) = Fl ps i + (tsz (ps.getD i zP) + fsum (ps.getD i zP) (ps.getD i zP).bl.length) := rfl
  have a4 := fsum_range hm _ (Nat.le_refl _)
  have a5 := rnd_range (x := 4 * ((ps.getD i zP).tz.length : Int)) (by omega)
  have a6 : tsz (ps.getD i zP) = rnd (4 * ((ps.getD i zP).tz.length : Int)) := rfl
  have b1 := Ra_range h.v i (by omega)
  have b2 := Ra_mono h.v (i + 1) ps.length (by omega) (Nat.le_refl _)
  have b3 : Ra ps (i + 1) = Ra ps i + dsz (ps.getD i zP) := rfl
  have b4 := vld_en hm
  have b5 := rnd_range (x := ((ps.getD i zP).dz.length : Int) + (ps.getD i zP).bss) (by omega)
  have b6 : dsz (ps.getD i zP) = rnd (((ps.getD i zP).dz.length : Int) + (ps.getD i zP).bss) := rfl
  have hfl := h.fl
  have hra := h.ra
  refine ⟨⟨a1.1, ?_⟩, by simp [plc], fun j hj => ?_, ?_, ?_⟩
  · show Fl ps i + 4 * _ ≤ _
    omega
  · have c1 := fsum_range hm j (by omega)
    have c2 := fsum_mono hm (j + 1) (ps.getD i zP).bl.length (by omega) (Nat.le_refl _)
    have c3 : fsum (ps.getD i zP) (j + 1) = fsum (ps.getD i zP) j + rnd (4 * (((ps.getD i zP).bl.getD j []).length : Int)) := rfl
    have c4 := rnd_range (x := 4 * (((ps.getD i zP).bl.getD j []).length : Int)) (by omega)
    have e : (plc ps i).banks.getD j 0 = Fl ps i + tsz (ps.getD i zP) + fsum (ps.getD i zP) j := range_getD _ _ _ _ hj
    rw [e]
    have c5 := tsz_range hm
    omega
  · show 65536 ≤ 65536 + Ra ps i
    omega
  · show 65536 + Ra ps i - 65536 + _ ≤ _
    omega
end Go.Proofs.YtngdgogjlpjjpaeGreat

namespace Go.Proofs.YtngdgogjlpjjpaeGreat
open Go.RowKit Classical
set_option linter.unusedVariables false
set_option linter.unusedSimpArgs false
set_option maxRecDepth 100000

theorem flat_len {α:Type}(f:α → List Value)(sz:Nat)(hf:∀ x,(f x).length=sz): ∀ xs : List α, (xs.flatMap f).length = xs.length * sz
  | [] => by simp
  | x :: xs => by simp only [List.flatMap_cons, List.length_append, List.length_cons, flat_len f sz hf xs, hf x]; rw [Nat.add_mul]; omega
theorem flat_get {α:Type}(f:α → List Value)(sz:Nat)(hf:∀ x,(f x).length=sz)(z:α): ∀ (xs : List α) (i j : Nat), i < xs.length → j < sz → (xs.flatMap f)[i * sz + j]? = (f (xs.getD i z))[j]?
  | [], i, j, h, _ => by simp at h
  | x :: xs, 0, j, h, hj => by simp [List.getElem?_append_left (show j < (f x).length by rw [hf]; exact hj)]
  | x :: xs, i + 1, j, h, hj => by
    have ih:=flat_get f sz hf z xs i j (by simpa using h) hj
    have e : (i + 1) * sz + j = (f x).length + (i * sz + j) := by rw [hf, Nat.add_mul]; omega
    rw [List.flatMap_cons, e, List.getElem?_append_right (by omega), Nat.add_sub_cancel_left, ih]
    simp
theorem take_flat {α:Type}(f:α → List Value)(sz:Nat)(hf:∀ x,(f x).length=sz)(z:α){cs : Array Value} {xs : List α} (h : cs.size = xs.length * sz) (hs : 0 < sz) (hc : ∀ i, i < xs.length → ∀ j, j < sz → cs[i * sz + j]? = (f (xs.getD i z))[j]?) : cs.toList.take (xs.length * sz) = xs.flatMap f := by
  apply List.ext_getElem?
  intro k
  by_cases hk : k < xs.length * sz
  · have e : k = k / sz * sz + k % sz := by rw [Nat.mul_comm]; exact (Nat.div_add_mod k sz).symm
    have h1 : k / sz < xs.length := by rw [Nat.div_lt_iff_lt_mul hs]; exact hk
    have h2 : k % sz < sz := Nat.mod_lt _ hs
    rw [List.getElem?_take, if_pos hk, Array.getElem?_toList]
    rw [e, hc _ h1 _ h2, flat_get f sz hf z xs _ _ h1 h2]
  · rw [List.getElem?_eq_none (by simp; omega), List.getElem?_eq_none (by rw [flat_len f sz hf]; omega)]
/-- A ROW of n things of sz cells, in a block of its own -/
def RowF {α : Type} (t : TypeId) (sz : Nat) (f : α → List Value) (w : World) (g n : Nat) (F : Nat → α) : Prop :=
  ∃ cs, Blk w g cs t ∧ cs.size = n * sz ∧ ∀ i, i < n → ∀ j, j < sz → cs[i * sz + j]? = (f (F i))[j]?
section
variable {α : Type} {t : TypeId} {sz : Nat} {f : α → List Value} {w w' : World} {g n : Nat} {F : Nat → α}
theorem RowF.below (h : RowF t sz f w g n F) (hb : Below w.heap.size w w') : RowF t sz f w' g n F := by
  obtain ⟨cs, h1, h2, h3⟩ := h
  exact ⟨cs, h1.below hb, h2, h3⟩
theorem RowF.lt (h : RowF t sz f w g n F) : g < w.heap.size := by obtain ⟨cs, h1, _⟩ := h; exact h1.lt
theorem RowF.blk (h : RowF t sz f w g n F) : ∃ cs, Blk w g cs t := by obtain ⟨cs, h1, _⟩ := h; exact ⟨cs, h1⟩
theorem RowF.cell (h : RowF t sz f w g n F) (hf : ∀ x, (f x).length = sz) (i j : Nat) (hi : i < n) (hj : j < sz) (v : Value) (hv : (f (F i))[j]? = some v) : w.cell? ⟨g, i * sz + j, none⟩ = some v := by
  obtain ⟨cs, h1, h2, h3⟩ := h
  rw [h1.cell, h3 i hi j hj, hv]
theorem RowF.og (h : RowF t sz f w g n F) (hf : ∀ x, (f x).length = sz) (hs : 0 < sz) {base : Nat} (hg : base ≤ g) (hn : n ≤ maxLen) {xs : List α} (hl : xs.length = n) (z : α) (he : ∀ i, i < n → F i = xs.getD i z) : OG t sz f w base (.slice (some ⟨g, 0, none⟩) n n) xs := by
  obtain ⟨cs, h1, h2, h3⟩ := h
  subst hl
  refine ⟨flat_len f sz hf xs, .inr ⟨g, xs.length, cs, rfl, hg, h1, Nat.le_refl _, hn, h2, take_flat f sz hf z h2 hs (fun i hi j hj => ?_)⟩⟩
  rw [h3 i hi j hj, he i hi]
theorem rowF_made (z0 : α) (v : Value) (hv : v.cells.toList = f z0) (hs : sz = v.cells.size) {base : Nat} (h : w.ownsRow base t sz (.slice (some ⟨g, 0, none⟩) n n) n (madeCells v.cells (n * sz)).toList) : RowF t sz f w g n (fun _ => z0) := by
  obtain ⟨hl, h | ⟨g', cap, cur, hv', hb, hh, h1, h2, h3, h4⟩⟩ := h
  · simp at h
  · simp at hv'
    obtain ⟨rfl, rfl⟩ := hv'
    have e : cur.toList = (madeCells v.cells (n * sz)).toList := by
      rw [← h4, List.take_of_length_le (by simp [h3])]
    have e2 : cur = madeCells v.cells (n * sz) := Array.toList_inj.1 e
    refine ⟨cur, hh, h3, fun i hi j hj => ?_⟩
    have hlt : i * sz + j < n * sz := by
      have : (i + 1) * sz ≤ n * sz := Nat.mul_le_mul_right _ (by omega)
      rw [Nat.add_mul] at this
      omega
    have hm : (i * sz + j) % v.cells.size = j := by rw [← hs, Nat.mul_comm, Nat.mul_add_mod]; exact Nat.mod_eq_of_lt hj
    rw [e2, ← hv]
    simp [madeCells, hlt, hm, show j < v.cells.size by omega]
theorem ar_at {cs : Array Value} {i : Nat} {v : Value} (h : i < cs.size) : (cs.setIfInBounds i v)[i]? = some v := by simp [h]
/-- one thing laid anew, cell by cell -/
theorem RowF.set1 (h : RowF t 1 f w g n F) (m : Nat) (hm : m < n) (x : α) (a : Value) (hx : f x = [a]) : RowF t 1 f (w.setCell ⟨g, m, none⟩ a) g n (fun i => if i = m then x else F i) := by
  obtain ⟨cs, h1, h2, h3⟩ := h
  refine ⟨_, h1.set m a, by simp [h2], fun i hi j hj => ?_⟩
  by_cases e : i = m
  · subst e
    obtain rfl : j = 0 := by omega
    simp [hx, h2, hi]
  · simp only [e, if_false]
    rw [Array.getElem?_setIfInBounds_ne (by omega)]
    exact h3 i hi j hj
theorem RowF.set3 (h : RowF t 3 f w g n F) (m : Nat) (hm : m < n) (x : α) (a b c : Value) (hx : f x = [a, b, c]) : RowF t 3 f (((w.setCell ⟨g, m * 3, none⟩ a).setCell ⟨g, m * 3 + 1, none⟩ b).setCell ⟨g, m * 3 + 2, none⟩ c) g n (fun i => if i = m then x else F i) := by
  obtain ⟨cs, h1, h2, h3⟩ := h
  refine ⟨_, ((h1.set (m * 3) a).set (m * 3 + 1) b).set (m * 3 + 2) c, by simp [h2], fun i hi j hj => ?_⟩
  by_cases e : i = m
  · subst e
    simp only [if_true, hx]
    match j, hj with
    | 0, _ => exact ar_other (ar_other (ar_at (by rw [h2]; omega)) (by omega)) (by omega)
    | 1, _ => exact ar_other (ar_at (by simp [h2]; omega)) (by omega)
    | 2, _ => exact ar_at (by simp [h2]; omega)
  · simp only [e, if_false]
    rw [Array.getElem?_setIfInBounds_ne (by omega), Array.getElem?_setIfInBounds_ne (by omega), Array.getElem?_setIfInBounds_ne (by omega)]
    exact h3 i hi j hj
theorem RowF.set4 (h : RowF t 4 f w g n F) (m : Nat) (hm : m < n) (x : α) (a b c d : Value) (hx : f x = [a, b, c, d]) : RowF t 4 f ((((w.setCell ⟨g, m * 4, none⟩ a).setCell ⟨g, m * 4 + 1, none⟩ b).setCell ⟨g, m * 4 + 2, none⟩ c).setCell ⟨g, m * 4 + 3, none⟩ d) g n (fun i => if i = m then x else F i) := by
  obtain ⟨cs, h1, h2, h3⟩ := h
  refine ⟨_, (((h1.set (m * 4) a).set (m * 4 + 1) b).set (m * 4 + 2) c).set (m * 4 + 3) d, by simp [h2], fun i hi j hj => ?_⟩
  by_cases e : i = m
  · subst e
    simp only [if_true, hx]
    match j, hj with
    | 0, _ => exact ar_other (ar_other (ar_other (ar_at (by rw [h2]; omega)) (by omega)) (by omega)) (by omega)
    | 1, _ => exact ar_other (ar_other (ar_at (by simp [h2]; omega)) (by omega)) (by omega)
    | 2, _ => exact ar_other (ar_at (by simp [h2]; omega)) (by omega)
    | 3, _ => exact ar_at (by simp [h2]; omega)
  · simp only [e, if_false]
    rw [Array.getElem?_setIfInBounds_ne (by omega), Array.getElem?_setIfInBounds_ne (by omega), Array.getElem?_setIfInBounds_ne (by omega), Array.getElem?_setIfInBounds_ne (by omega)]
    exact h3 i hi j hj
end
/-- heads that were made at once, with a row each -/
structure HR {α β : Type} (th : TypeId) (hs : Nat) (hc : α → List Value) (tr : TypeId) (rs : Nat) (rc : β → List Value) (sv : α → Value) (ct : α → List β) (w : World) (base g n : Nat) (f : Nat → α) : Prop where
  head : RowF th hs hc w g n f
  rows : ∀ i, i < n → OG tr rs rc w base (sv (f i)) (ct (f i))
  apart : ∀ i j, i < n → j < n → i ≠ j → ∀ k, (sv (f i)).ownBlock = some k → (sv (f j)).ownBlock ≠ some k
section
variable {α β : Type} {th : TypeId} {hs : Nat} {hc : α → List Value} {tr : TypeId} {rs : Nat} {rc : β → List Value} {sv : α → Value} {ct : α → List β} {w w' : World} {base g n : Nat} {f : Nat → α}
theorem HR.below (h : HR th hs hc tr rs rc sv ct w base g n f) (hb : Below w.heap.size w w') : HR th hs hc tr rs rc sv ct w' base g n f := ⟨h.head.below hb, fun i hi => (h.rows i hi).below hb, h.apart⟩
theorem HR.put (h : HR th hs hc tr rs rc sv ct w base g n f) (hne : th ≠ tr) {m : Nat} (hm : m < n) {x : α} (R : RowF th hs hc w' g n (fun i => if i = m then x else f i)) (T : Turn (fun j => j = g) w w') (hx : OG tr rs rc w base (sv x) (ct x)) (hap : ∀ i, i < n → i ≠ m → ∀ k, (sv (f i)).ownBlock = some k → (sv x).ownBlock ≠ some k) : HR th hs hc tr rs rc sv ct w' base g n (fun i => if i = m then x else f i) := by
  obtain ⟨cg, kg⟩ := h.head.blk
  have ng : ∀ (v : Value) (ys : List β), OG tr rs rc w base v ys → ∀ k, v.ownBlock = some k → ¬ (fun j => j = g) k := fun v ys ho k hk e => by
    have e' : k = g := e
    subst e'
    obtain ⟨c1, k1⟩ := own_kind ho hk
    exact hne (blk_kind kg k1)
  refine ⟨R, fun i hi => ?_, fun i j hi hj hij k hk => ?_⟩
  · by_cases e : i = m
    · simp only [e, if_true]; exact hx.kept T (ng _ _ hx)
    · simp only [e, if_false]; exact (h.rows i hi).kept T (ng _ _ (h.rows i hi))
  · by_cases e1 : i = m
    · have e2 : ¬ j = m := fun e => hij (e1.trans e.symm)
      simp only [e1, e2, if_true, if_false] at hk ⊢
      exact fun e => hap j hj e2 k e hk
    · by_cases e2 : j = m
      · simp only [e1, e2, if_true, if_false] at hk ⊢
        exact hap i hi e1 k hk
      · simp only [e1, e2, if_false] at hk ⊢
        exact h.apart i j hi hj hij k hk
theorem HR.or (h : HR th hs hc tr rs rc sv ct w base g n f) (hf : ∀ x, (hc x).length = hs) (h0 : 0 < hs) (hg : base ≤ g) (hn : n ≤ maxLen) (z : α) {xs : List α} (hl : xs.length = n) (he : ∀ i, i < n → f i = xs.getD i z) : OR th hs hc tr rs rc sv ct w base base (.slice (some ⟨g, 0, none⟩) n n) xs := by
  refine ⟨h.head.og hf h0 hg hn hl z he, fun x hx => ?_, ?_⟩
  · obtain ⟨i, hi, rfl⟩ := List.getElem_of_mem hx
    have := h.rows i (by omega)
    rw [he i (by omega)] at this
    simpa [List.getD_eq_getElem?_getD, hi] using this
  · rw [List.pairwise_iff_getElem]
    intro i j hi hj hij k hk
    have := h.apart i j (by omega) (by omega) (by omega) k
    rw [he i (by omega), he j (by omega)] at this
    simp only [List.getD_eq_getElem?_getD, List.getElem?_eq_getElem hi, List.getElem?_eq_getElem hj, Option.getD_some] at this
    exact this hk
end
end Go.Proofs.YtngdgogjlpjjpaeGreat
