import Derived.Test.YtngdgogjlpjjpadGreatJ44
import Derived.Test.YtngdgogjlpjjpadGreatJ28
namespace Go.Proofs.YtngdgogjlpjjpadGreat
open Go.RowKit
set_option linter.unusedVariables false
set_option linter.unusedSimpArgs false
set_option maxRecDepth 100000

/-- the digits of a number ahead of a text -/
def mtf:Nat -> Nat -> ByteArray -> ByteArray
 | 0,_,s=>s
 | f+1,k,s=>if k=0 then s else mtf f (k/10) (⟨#[UInt8.ofNat ((48 + (k : Int) % 10).toNat)]⟩++s)
theorem mtf_same:∀ (f g k:Nat) (s:ByteArray),k<=f -> k<=g -> mtf f k s=mtf g k s
 | 0,0,_,_,_,_=>rfl
 | 0,g+1,k,s,h,_=>by rw [show k=0 by omega];rfl
 | f+1,0,k,s,_,h=>by rw [show k=0 by omega];rfl
 | f+1,g+1,k,s,h,i=>by
  unfold mtf
  split
  · rfl
  · exact mtf_same f g _ _ (by omega) (by omega)
def mtd (k:Nat)(s:ByteArray):ByteArray:=mtf k k s
theorem mtd_zero (s:ByteArray):mtd 0 s=s:=rfl
theorem mtd_step (k : Nat) (s : ByteArray) (h : 0 < k) : mtd k s = mtd (k / 10) (⟨#[UInt8.ofNat ((48 + (k : Int) % 10).toNat)]⟩ ++ s) := by
 obtain ⟨j,rfl⟩:∃ j,k=j+1:=⟨k-1,by omega⟩
 show mtf (j+1) (j+1) s=_
 unfold mtf
 rw [if_neg (by omega)]
 exact mtf_same _ _ _ _ (by omega) (by omega)
/-- the text of a mark -/
def mtx (k : Nat) : ByteArray := ⟨#[109]⟩ ++ mtd k ⟨#[]⟩

set_option maxHeartbeats 1000000 in
theorem markText_is (k : Nat) (w : World) (h0 : 0 < k) (hk : k ≤ 8388608) : Calls Tryz.prog 127 #[.int .i64 k] w fun e w' => e = .returned (.string (mtx k)) ∧ Below w.heap.size w w' := by
  have hk0 : 0 < (k : Int) := by omega
  go_enter Tryz.func127, Tryz.ntmps127
  go_wp2_with fail
  go_loopw [0, 3] (fun x o wr => ∃ (m : Nat) (s : ByteArray), x = .int .i64 m ∧ o = .string s ∧ s.size + m ≤ 8388608 ∧ Hid (mtd m s = mtd k ⟨#[]⟩) ∧ Below w.heap.size w wr) (fun x _ _ => (intOf x).toNat)
  case atStart => exact ⟨k, ⟨#[]⟩, rfl, rfl, by show 0 + k ≤ _; omega, hide rfl, Below.refl _ _⟩
  case round =>
    obtain ⟨m, s, rfl, rfl, hm, HM, hB⟩ := hrel
    clear hk hk0 h0
    by_cases hlt : 0 < m
    · have hlt' : 0 < (m : Int) := by omega
      have hcv := fun (W : World) => run_digit W (48 + (m : Int) % 10) (by omega) (by omega)
      have HB := hide hB
      have hBs := hB.size
      have HS := hide (mtd_step m s hlt)
      generalize hd : UInt8.ofNat ((48 + (m : Int) % 10).toNat) = d at *
      have HD := hide hd
      clear hB hd
      go_wp2
      go_roundw
      case rel =>
        refine ⟨m / 10, ⟨#[d]⟩ ++ s, by go_num, rfl, ?_, hide (by rw [← HM.out, HS.out]), HB.out.alloc hBs _⟩
        rw [ByteArray.size_append]
        have e1 : (⟨#[d]⟩ : ByteArray).size = 1 := rfl
        omega
      case measure => simp [intOf]; omega
    · obtain rfl : m = 0 := by omega
      have HM2 := hide (show mtx k = ⟨#[109]⟩ ++ s by unfold mtx; rw [← HM.out, mtd_zero])
      go_wp2
      go_ret
      exact ⟨by rw [HM2.out]; rfl, hB⟩
end Go.Proofs.YtngdgogjlpjjpadGreat

namespace Go.Proofs.YtngdgogjlpjjpadGreat
open Go.RowKit
set_option linter.unusedVariables false
set_option linter.unusedSimpArgs false
set_option maxRecDepth 100000

/-- THE SHAPE OF THE BLOCKS IS KEPT. -/
def Shp (w w' : World) : Prop := ∀ g cs t, Blk w g cs t → ∃ cs' : Array Value, Blk w' g cs' t ∧ cs'.size = cs.size
theorem Shp.refl (w : World) : Shp w w := fun g cs t h => ⟨cs, h, rfl⟩
theorem Shp.trans {a b c : World} (h : Shp a b) (k : Shp b c) : Shp a c := fun g cs t hb => by
  obtain ⟨c1, h1, e1⟩ := h g cs t hb
  obtain ⟨c2, h2, e2⟩ := k g c1 t h1
  exact ⟨c2, h2, e2.trans e1⟩
theorem Shp.below {w w' : World} (h : Below w.heap.size w w') : Shp w w' := fun g cs t hb => ⟨cs, hb.below h, rfl⟩
theorem Shp.set (w : World) (k i : Nat) (v : Value) : Shp w (w.setCell ⟨k, i, none⟩ v) := fun g cs t hb => by
  by_cases e : g = k
  · subst e
    exact ⟨_, hb.set i v, by simp⟩
  · exact ⟨cs, hb.other _ _ e, rfl⟩
/-- WHAT A MARK DOES: it writes into the blocks S alone, and keeps the shape of all. -/
structure Mkd (S : Nat → Prop) (w w' : World) : Prop where
  turn : Turn S w w'
  shp : Shp w w'
theorem Mkd.refl (S : Nat → Prop) (w : World) : Mkd S w w := ⟨Turn.refl _ _, Shp.refl _⟩
theorem Mkd.trans {S : Nat → Prop} {a b c : World} (h : Mkd S a b) (k : Mkd S b c) : Mkd S a c := ⟨h.turn.trans k.turn, h.shp.trans k.shp⟩
theorem Mkd.below {S : Nat → Prop} {w w' : World} (h : Below w.heap.size w w') : Mkd S w w' := ⟨turn_below h, Shp.below h⟩
theorem Mkd.set {S : Nat → Prop} {w w' : World} (h : Mkd S w w') (k i : Nat) (v : Value) (hk : S k) : Mkd S w (w'.setCell ⟨k, i, none⟩ v) :=
  h.trans ⟨⟨rfl, rfl, rfl, by rw [size_setCell]; exact Nat.le_refl _, fun j _ hj => heap_setCell_other _ _ _ _ (fun e => hj (by rw [e]; exact hk))⟩, Shp.set _ _ _ _⟩
theorem Mkd.mono {S S' : Nat → Prop} {w w' : World} (h : Mkd S w w') (hs : ∀ k, S k → S' k) : Mkd S' w w' := ⟨h.turn.mono hs, h.shp⟩
/-- A ROW THAT MAY BE MARKED: n places of sz cells, in a block of S. -/
def Sl (S : Nat → Prop) (w : World) (a : Option Addr) (n sz : Nat) : Prop := n ≠ 0 → ∃ g o cs t, a = some ⟨g, o, none⟩ ∧ S g ∧ Blk w g cs t ∧ o + n * sz ≤ cs.size
theorem Sl.shp {S : Nat → Prop} {w w' : World} {a : Option Addr} {n sz : Nat} (h : Sl S w a n sz) (m : Shp w w') : Sl S w' a n sz := fun hn => by
  obtain ⟨g, o, cs, t, ha, hs, hb, hl⟩ := h hn
  obtain ⟨cs', hb', e⟩ := m g cs t hb
  exact ⟨g, o, cs', t, ha, hs, hb', by omega⟩
theorem Sl.ofBlk {S : Nat → Prop} {w : World} {g n c sz : Nat} {cs : Array Value} {t : TypeId} (hb : Blk w g cs t) (hS : S g) (hs : n * sz ≤ cs.size) : Sl S w (some ⟨g, 0, none⟩) n sz := fun _ => ⟨g, 0, cs, t, rfl, hS, hb, by omega⟩
theorem Sl.cell {S : Nat → Prop} {w : World} {g o n sz : Nat} (h : Sl S w (some ⟨g, o, none⟩) n sz) (hn : n ≠ 0) (i : Nat) (hi : i < n * sz) : (∃ u, w.cell? ⟨g, o + i, none⟩ = some u) ∧ w.frozen? ⟨g, o + i, none⟩ = false ∧ S g := by
  obtain ⟨g', o', cs, t, ha, hs, hb, hl⟩ := h hn
  simp at ha
  obtain ⟨rfl, rfl⟩ := ha
  exact ⟨⟨cs[o + i]'(by omega), by rw [hb.cell]; simp [show o + i < cs.size by omega]⟩, hb.frozen _, hs⟩
theorem Sl.addr {S : Nat → Prop} {w : World} {a : Option Addr} {n sz : Nat} (h : Sl S w a n sz) (hn : n ≠ 0) : ∃ g o, a = some ⟨g, o, none⟩ := by
  obtain ⟨g, o, _, _, ha, _⟩ := h hn
  exact ⟨g, o, ha⟩

set_option maxHeartbeats 1000000 in
theorem markIntS_sl (S : Nat → Prop) (a : Option Addr) (n cap k : Nat) (w : World) (h : Sl S w a n 1) (hn : n ≤ 1048576) (hk : k ≤ 6291456) :
    Calls Tryz.prog 103 #[.slice a n cap, .int .i64 k] w fun e w' => e = .returned (.int .i64 ((k + n : Nat) : Int)) ∧ Mkd S w w' := by
  go_enter Tryz.func103, Tryz.ntmps103
  go_wp2
  go_loopw [1, 5] (fun x i wr => ∃ m : Nat, m ≤ n ∧ i = .int .i64 m ∧ x = .int .i64 ((k + m : Nat) : Int) ∧ Mkd S w wr) (fun _ i _ => n - (intOf i).toNat)
  case atStart => exact ⟨0, Nat.zero_le _, rfl, rfl, Mkd.refl _ _⟩
  case round =>
    obtain ⟨m, hm, rfl, rfl, M⟩ := hrel
    by_cases hlt : m < n
    · have hlt' : (m : Int) < (n : Int) := by omega
      obtain ⟨g, o, rfl⟩ := h.addr (by omega)
      obtain ⟨⟨u, c0⟩, f0, hS⟩ := (h.shp M.shp).cell (by omega) m (by omega)
      have HM := hide (fun v => M.set g (o + m) v hS)
      clear M
      go_wp2
      go_roundw
      case rel => exact ⟨m + 1, by omega, by go_num, by go_num, HM.out _⟩
      case measure => simp [intOf]; omega
    · obtain rfl : m = n := by omega
      go_wp2
      go_ret
      exact ⟨by go_num, M⟩

set_option maxHeartbeats 1000000 in
theorem markByteS_sl (S : Nat → Prop) (a : Option Addr) (n cap k : Nat) (w : World) (h : Sl S w a n 1) (hn : n ≤ 1048576) (hk : k ≤ 6291456) :
    Calls Tryz.prog 104 #[.slice a n cap, .int .i64 k] w fun e w' => e = .returned (.int .i64 ((k + n : Nat) : Int)) ∧ Mkd S w w' := by
  go_enter Tryz.func104, Tryz.ntmps104
  go_wp2
  go_loopw [1, 5] (fun x i wr => ∃ m : Nat, m ≤ n ∧ i = .int .i64 m ∧ x = .int .i64 ((k + m : Nat) : Int) ∧ Mkd S w wr) (fun _ i _ => n - (intOf i).toNat)
  case atStart => exact ⟨0, Nat.zero_le _, rfl, rfl, Mkd.refl _ _⟩
  case round =>
    obtain ⟨m, hm, rfl, rfl, M⟩ := hrel
    by_cases hlt : m < n
    · have hlt' : (m : Int) < (n : Int) := by omega
      obtain ⟨g, o, rfl⟩ := h.addr (by omega)
      obtain ⟨⟨u, c0⟩, f0, hS⟩ := (h.shp M.shp).cell (by omega) m (by omega)
      have HM := hide (fun v => M.set g (o + m) v hS)
      clear M
      go_wp2
      go_roundw
      case rel => exact ⟨m + 1, by omega, by go_num, by go_num, HM.out _⟩
      case measure => simp [intOf]; omega
    · obtain rfl : m = n := by omega
      go_wp2
      go_ret
      exact ⟨by go_num, M⟩

set_option maxHeartbeats 1000000 in
theorem markStringS_sl (S : Nat → Prop) (a : Option Addr) (n cap k : Nat) (w : World) (h : Sl S w a n 1) (hn : n ≤ 1048576) (hk : k ≤ 6291456) :
    Calls Tryz.prog 129 #[.slice a n cap, .int .i64 k] w fun e w' => e = .returned (.int .i64 ((k + n : Nat) : Int)) ∧ Mkd S w w' := by
  go_enter Tryz.func129, Tryz.ntmps129
  go_wp2
  go_loopw [1, 5] (fun x i wr => ∃ m : Nat, m ≤ n ∧ i = .int .i64 m ∧ x = .int .i64 ((k + m : Nat) : Int) ∧ Mkd S w wr) (fun _ i _ => n - (intOf i).toNat)
  case atStart => exact ⟨0, Nat.zero_le _, rfl, rfl, Mkd.refl _ _⟩
  case round =>
    obtain ⟨m, hm, rfl, rfl, M⟩ := hrel
    by_cases hlt : m < n
    · have hlt' : (m : Int) < (n : Int) := by omega
      obtain ⟨g, o, rfl⟩ := h.addr (by omega)
      have HT := hide (markText_any (k + m) wr (by omega))
      go_wp2_with fail
      refine HT.out.mono ?_
      rintro e w1 ⟨s, rfl, hs, hb⟩
      have M1 : Mkd S w w1 := M.trans (Mkd.below hb)
      obtain ⟨⟨u, c0⟩, f0, hS⟩ := (h.shp M1.shp).cell (by omega) m (by omega)
      have HM := hide (fun v => M1.set g (o + m) v hS)
      clear M M1 hb HT
      go_wp2
      go_roundw
      case rel => exact ⟨m + 1, by omega, by go_num, by go_num, HM.out _⟩
      case measure => simp [intOf]; omega
    · obtain rfl : m = n := by omega
      go_wp2
      go_ret
      exact ⟨by go_num, M⟩

set_option maxHeartbeats 2000000 in
theorem markExportS_sl (S : Nat → Prop) (a : Option Addr) (n cap k : Nat) (w : World) (h : Sl S w a n 3) (hn : n ≤ 1048576) (hk : k ≤ 4194304) :
    Calls Tryz.prog 130 #[.slice a n cap, .int .i64 k] w fun e w' => e = .returned (.int .i64 ((k + 3 * n : Nat) : Int)) ∧ Mkd S w w' := by
  go_enter Tryz.func130, Tryz.ntmps130
  go_wp2
  go_loopw [1, 5] (fun x i wr => ∃ m : Nat, m ≤ n ∧ i = .int .i64 m ∧ x = .int .i64 ((k + 3 * m : Nat) : Int) ∧ Mkd S w wr) (fun _ i _ => n - (intOf i).toNat)
  case atStart => exact ⟨0, Nat.zero_le _, rfl, rfl, Mkd.refl _ _⟩
  case round =>
    obtain ⟨m, hm, rfl, rfl, M⟩ := hrel
    by_cases hlt : m < n
    · have hlt' : (m : Int) < (n : Int) := by omega
      obtain ⟨g, o, rfl⟩ := h.addr (by omega)
      have HT := hide (markText_any (k + 3 * m) wr (by omega))
      go_wp2_with fail
      refine HT.out.mono ?_
      rintro e w1 ⟨s, rfl, hs, hb⟩
      have M1 : Mkd S w w1 := M.trans (Mkd.below hb)
      obtain ⟨⟨u, c0⟩, f0, hS⟩ := (h.shp M1.shp).cell (by omega) (m * 3) (by omega)
      obtain ⟨⟨u1, c1⟩, f1, _⟩ := (h.shp M1.shp).cell (by omega) (m * 3 + 1) (by omega)
      obtain ⟨⟨u2, c2⟩, f2, _⟩ := (h.shp M1.shp).cell (by omega) (m * 3 + 2) (by omega)
      rw [← Nat.add_assoc] at c1 f1 c2 f2
      have HM := hide (fun v v1 v2 => ((M1.set g (o + m * 3) v hS).set g (o + m * 3 + 1) v1 hS).set g (o + m * 3 + 2) v2 hS)
      clear M M1 hb HT
      go_wp2
      go_roundw
      case rel => exact ⟨m + 1, by omega, by go_num, by go_num, HM.out _ _ _⟩
      case measure => simp [intOf]; omega
    · obtain rfl : m = n := by omega
      go_wp2
      go_ret
      exact ⟨by go_num, M⟩

/-- rows of rows: their heads are not marked, their rows are -/
structure SlB (S : Nat → Prop) (w : World) (a : Option Addr) (n : Nat) (f : Nat → Option Addr × Nat × Nat) : Prop where
  head : n ≠ 0 → ∃ g o cs t, a = some ⟨g, o, none⟩ ∧ ¬ S g ∧ Blk w g cs t ∧ ∀ i, i < n → cs[o + i]? = some (.slice (f i).1 (f i).2.1 (f i).2.2)
  rows : ∀ i, i < n → Sl S w (f i).1 (f i).2.1 1
theorem SlB.kept {S : Nat → Prop} {w w' : World} {a : Option Addr} {n : Nat} {f : Nat → Option Addr × Nat × Nat} (h : SlB S w a n f) (m : Mkd S w w') : SlB S w' a n f :=
  ⟨fun hn => by obtain ⟨g, o, cs, t, ha, hs, hb, hl⟩ := h.head hn; exact ⟨g, o, cs, t, ha, hs, turn_blk m.turn hb hs, hl⟩, fun i hi => (h.rows i hi).shp m.shp⟩
/-- how many they are together -/
def sumB (f : Nat → Option Addr × Nat × Nat) : Nat → Nat
  | 0 => 0
  | n + 1 => sumB f n + (f n).2.1
theorem sumB_le (f : Nat → Option Addr × Nat × Nat) : ∀ n i, i < n → (f i).2.1 + sumB f i ≤ sumB f n
  | 0, i, h => by omega
  | n + 1, i, h => by
    show _ ≤ sumB f n + (f n).2.1
    by_cases e : i = n
    · subst e; omega
    · have := sumB_le f n i (by omega); omega

set_option maxHeartbeats 1000000 in
theorem markIntSS_sl (S : Nat → Prop) (a : Option Addr) (n cap k : Nat) (f : Nat → Option Addr × Nat × Nat) (w : World) (h : SlB S w a n f) (hn : n ≤ 1048576) (hs : sumB f n ≤ 1048576) (hk : k ≤ 4194304) :
    Calls Tryz.prog 128 #[.slice a n cap, .int .i64 k] w fun e w' => e = .returned (.int .i64 ((k + sumB f n : Nat) : Int)) ∧ Mkd S w w' := by
  go_enter Tryz.func128, Tryz.ntmps128
  go_wp2
  go_loopw [1, 5] (fun x i wr => ∃ m : Nat, m ≤ n ∧ i = .int .i64 m ∧ x = .int .i64 ((k + sumB f m : Nat) : Int) ∧ Mkd S w wr) (fun _ i _ => n - (intOf i).toNat)
  case atStart => exact ⟨0, Nat.zero_le _, rfl, rfl, Mkd.refl _ _⟩
  case round =>
    obtain ⟨m, hm, rfl, rfl, M⟩ := hrel
    by_cases hlt : m < n
    · have hlt' : (m : Int) < (n : Int) := by omega
      have hM := h.kept M
      obtain ⟨g, o, cs, t, rfl, _, hb, hc⟩ := hM.head (by omega)
      have c0 := (hb.cell (o + m)).trans (hc m hlt)
      have hle := sumB_le f n m hlt
      have HSU := hide (show sumB f (m + 1) = sumB f m + (f m).2.1 from rfl)
      have HK := hide (fun k hk => markIntS_sl S (f m).1 (f m).2.1 (f m).2.2 k wr (hM.rows m hlt) (by omega) hk)
      generalize sumB f m = sm at *
      generalize f m = fm at *
      obtain ⟨fa, fn, fc⟩ := fm
      dsimp only at *
      clear hM hb hc
      go_wp2_with fail
      refine (HK.out (k + sm) (by omega)).mono ?_
      rintro e w1 ⟨rfl, M1⟩
      have HM := hide (M.trans M1)
      clear M M1 HK c0
      go_wp2
      go_roundw
      case rel => exact ⟨m + 1, by omega, by go_num, by rw [HSU.out]; go_num, HM.out⟩
      case measure => simp [intOf]; omega
    · obtain rfl : m = n := by omega
      go_wp2
      go_ret
      exact ⟨by go_num, M⟩
end Go.Proofs.YtngdgogjlpjjpadGreat

namespace Go.Proofs.YtngdgogjlpjjpadGreat
open Go.RowKit
set_option linter.unusedVariables false
set_option linter.unusedSimpArgs false
set_option maxRecDepth 100000

theorem ogT_set {w : World} {base g n c : Nat} {ss : List ByteArray} (h : OG 9 1 clT w base (.slice (some ⟨g, 0, none⟩) n c) ss) (i : Nat) (hi : i < n) (s : ByteArray) : OG 9 1 clT (w.setCell ⟨g, i, none⟩ (.string s)) base (.slice (some ⟨g, 0, none⟩) n c) (ss.set i s) := by
  unfold OG at *
  rw [flat_clT] at *
  obtain ⟨hl, ⟨h0, _⟩ | ⟨g', cap', cur, hv, hg, hh, h1, h2, h3, h4⟩⟩ := h
  · simp at h0
  · simp at hv
    obtain ⟨rfl, rfl, rfl⟩ := hv
    refine ⟨by simp, .inr ⟨g, c, cur.setIfInBounds i (.string s), by simp, hg, Blk.set (w := w) hh i _, by simpa using h1, h2, by simpa using h3, ?_⟩⟩
    rw [List.length_set, Array.toList_setIfInBounds, List.take_set, h4, List.map_set]
def marksT (k n : Nat) : List ByteArray := (List.range n).map fun i => mtx (k + i)
def mixedT (zs : List ByteArray) (k m : Nat) : List ByteArray := (List.range zs.length).map fun i => if i < m then mtx (k + i) else zs.getD i zS
theorem mixedT_zero (zs : List ByteArray) (k : Nat) : mixedT zs k 0 = zs := by
  apply List.ext_getElem
  · simp [mixedT]
  · intro i h1 h2; simp [mixedT, h2]
theorem mixedT_all (zs : List ByteArray) (k : Nat) : mixedT zs k zs.length = marksT k zs.length := by
  apply List.ext_getElem
  · simp [mixedT, marksT]
  · intro i h1 h2
    simp [marksT] at h2
    simp [mixedT, marksT, h2]
theorem mixedT_set (zs : List ByteArray) (k m : Nat) (h : m < zs.length) : (mixedT zs k m).set m (mtx (k + m)) = mixedT zs k (m + 1) := by
  apply List.ext_getElem
  · simp [mixedT]
  · intro i h1 h2
    simp only [mixedT, List.getElem_set, List.getElem_map, List.getElem_range]
    by_cases hik : m = i
    · subst hik; simp
    · by_cases h3 : i < m
      · simp [hik, h3, show i < m + 1 by omega]
      · simp [hik, h3, show ¬ i < m + 1 by omega]

set_option maxHeartbeats 1000000 in
theorem markStringS_some (g n cap base : Nat) (zs : List ByteArray) (k : Nat) (w : World) (h : OG 9 1 clT w base (.slice (some ⟨g, 0, none⟩) n cap) zs) (hn : n ≤ 1048576) (h0 : 0 < k) (hk : k ≤ 4194304) :
    Calls Tryz.prog 129 #[.slice (some ⟨g, 0, none⟩) n cap, .int .i64 k] w fun e w' => e = .returned (.int .i64 ((k + n : Nat) : Int)) ∧ OG 9 1 clT w' base (.slice (some ⟨g, 0, none⟩) n cap) (marksT k n) ∧ Turn (fun j => j = g) w w' := by
  have hl := (og_parts h).1
  go_enter Tryz.func129, Tryz.ntmps129
  go_wp2
  go_loopw [1, 5] (fun x i wr => ∃ m : Nat, m ≤ n ∧ i = .int .i64 m ∧ x = .int .i64 ((k + m : Nat) : Int) ∧ OG 9 1 clT wr base (.slice (some ⟨g, 0, none⟩) n cap) (mixedT zs k m) ∧ Turn (fun j => j = g) w wr) (fun _ i _ => n - (intOf i).toNat)
  case atStart => exact ⟨0, Nat.zero_le _, rfl, rfl, by rw [mixedT_zero]; exact h, Turn.refl _ _⟩
  case round =>
    obtain ⟨m, hm, rfl, rfl, O, T⟩ := hrel
    by_cases hlt : m < n
    · have hlt' : (m : Int) < (n : Int) := by omega
      have HT := hide (markText_is (k + m) wr (by omega) (by omega))
      go_wp2_with fail
      refine HT.out.mono ?_
      rintro e w1 ⟨rfl, hb⟩
      have O1 := O.below hb
      have T1 := T.trans (turn_below hb)
      have hsl : Sl (fun j => j = g) w1 (some ⟨g, 0, none⟩) n 1 := by
        obtain ⟨_, ⟨h0', _⟩ | ⟨g', cap', cur, hv, _, hh, h1, _, h3, _⟩⟩ := O1
        · simp at h0'
        · simp at hv
          obtain ⟨rfl, rfl, rfl⟩ := hv
          refine Sl.ofBlk (c := 0) hh rfl ?_
          simp at h1 h3
          omega
      obtain ⟨⟨u, c0⟩, f0, _⟩ := hsl.cell (by omega) m (by omega)
      rw [Nat.zero_add] at c0 f0
      have O2 := ogT_set O1 m hlt (mtx (k + m))
      rw [mixedT_set zs k m (by omega)] at O2
      have T2 := T1.trans (turn_set w1 g m (.string (mtx (k + m))))
      have HX := hide (And.intro O2 T2)
      clear O T O1 T1 O2 T2 hb HT hsl
      go_wp2
      go_roundw
      case rel => exact ⟨m + 1, by omega, by go_num, by go_num, HX.out.1, HX.out.2⟩
      case measure => simp [intOf]; omega
    · have e : Hid (m = n) := by show m = n; omega
      have HX := hide (And.intro O T)
      clear O T
      go_wp2
      go_ret
      refine ⟨ret_int (by rw [e.out]), ?_, HX.out.2⟩
      have := HX.out.1
      rw [e.out, ← hl, mixedT_all] at this
      rw [hl] at this
      exact this
end Go.Proofs.YtngdgogjlpjjpadGreat

namespace Go.Proofs.YtngdgogjlpjjpadGreat
open Go.RowKit
set_option linter.unusedVariables false
set_option linter.unusedSimpArgs false
set_option maxRecDepth 100000

set_option maxHeartbeats 1000000 in
theorem markStringS_zero (a : Option Addr) (cap k : Nat) (w : World) :
    Calls Tryz.prog 129 #[.slice a 0 cap, .int .i64 k] w fun e w' => e = .returned (.int .i64 k) ∧ w = w' := by
  go_enter Tryz.func129, Tryz.ntmps129
  go_wp2
  go_loop [1, 5] (fun x i => i = .int .i64 0 ∧ x = .int .i64 k) (fun _ _ => 0)
  case atStart => exact ⟨rfl, rfl⟩
  case round =>
    obtain ⟨rfl, rfl⟩ := hrel
    go_wp2
    go_ret
    exact ⟨rfl, rfl⟩
theorem markStringS_any (a : Option Addr) (n cap base : Nat) (zs : List ByteArray) (k : Nat) (w : World) (h : OG 9 1 clT w base (.slice a n cap) zs) (hn : n ≤ 1048576) (h0 : 0 < k) (hk : k ≤ 4194304) :
    Calls Tryz.prog 129 #[.slice a n cap, .int .i64 k] w fun e w' => e = .returned (.int .i64 ((k + n : Nat) : Int)) ∧ OG 9 1 clT w' base (.slice a n cap) (marksT k n) ∧ Turn (fun j => (Value.slice a n cap).ownBlock = some j) w w' := by
  by_cases h1 : n = 0
  · subst h1
    refine (markStringS_zero a cap k w).mono fun e w' he => ?_
    obtain ⟨rfl, rfl⟩ := he
    have hz : zs = [] := List.eq_nil_of_length_eq_zero (og_parts h).1
    subst hz
    exact ⟨rfl, h, Turn.refl _ _⟩
  · obtain ⟨g, rfl⟩ := og_addr h h1
    refine (markStringS_some g n cap base zs k w h hn h0 hk).mono fun e w' he => ⟨he.1, he.2.1, he.2.2.mono ?_⟩
    intro j hj
    subst hj
    rfl
theorem marksT_at (k n m : Nat) (h : m < n) : ((marksT k n).flatMap clT)[m]? = some (.string (mtx (k + m))) := by
  rw [flat_clT]
  simp [marksT, h]
theorem ogT_at {w : World} {base g n c : Nat} {xs : List ByteArray} (h : OG 9 1 clT w base (.slice (some ⟨g, 0, none⟩) n c) xs) (m : Nat) (u : Value) (hu : (xs.flatMap clT)[m]? = some u) : ∀ W, Below w.heap.size w W → W.cell? ⟨g, m, none⟩ = some u := fun W hb => by
  have O := OG.below h hb
  obtain ⟨hl, _, _, h4⟩ := og_parts O
  have hn : n ≠ 0 := fun e => by
    subst e
    have : xs = [] := List.eq_nil_of_length_eq_zero hl
    subst this
    simp at hu
  obtain ⟨g', hg', hc⟩ := h4 hn
  simp at hg'
  subst hg'
  exact hc m u hu
theorem marksT_len (k n : Nat) : (marksT k n).length = n := by simp [marksT]

end Go.Proofs.YtngdgogjlpjjpadGreat
