import Derived.Test.YtngdgogjlpjjpadGreatP07
import Derived.Test.YtngdgogjlpjjpadGreatP13
import Derived.Test.YtngdgogjlpjjpadGreatP31
import Derived.Test.YtngdgogjlpjjpadGreatP32
import Derived.Test.YtngdgogjlpjjpadGreatP33
import Derived.Test.YtngdgogjlpjjpadGreatP34
import Derived.Test.YtngdgogjlpjjpadGreatP35
import Derived.Test.YtngdgogjlpjjpadGreatP36
namespace Go.Proofs.YtngdgogjlpjjpadGreat
open Go.RowKit
set_option linter.unusedVariables false
theorem l3Ins_fn (zs:List Int) (k:Nat) (hz:∀ j,0≤zs.getD j 0∧zs.getD j 0≤255):
 ∃ (o d x i:Int) (k':Nat),(-1≤o∧o≤64∧-1≤d∧d≤10∧-1≤x∧x≤10∧-1≤i∧i≤65536)∧∀ (r:Nat) (a:Option Addr) (n c:Nat) (w:World) (h:Rdr w r a n c zs k) (hcode:n≠0→∀ b off,a=some ⟨b,off,none⟩→b<w.heap.size),Calls Tryz.prog 282 #[.pointer (some ⟨r,0,none⟩)] w (InsDr w r a n c zs o d x i k'):=by
 obtain ⟨v1,E1,z0,z0'⟩:=draw_of hz k
 obtain ⟨op,ho1,ho2,hop⟩:=opTab_at (v1 % 25).toNat (by omega)
 have HOP:=hide hop
 clear hop
 refine ⟨op,?_⟩
 by_cases hu3:us op=3
 ·exact l3Ins_u3 zs k hz v1 E1 z0 z0' op ho1 ho2 hu3 HOP
 by_cases hu0:us op=0
 ·exact l3Ins_u0 zs k hz v1 E1 z0 z0' op ho1 ho2 hu0 HOP
 rcases op_cases op with h' | h' | rfl | rfl | rfl | rfl | rfl | rfl | rfl | rfl | rfl | rfl | rfl | rfl | rfl | rfl | rfl | rfl | rfl | rfl | rfl | rfl | rfl | rfl | rfl | rfl | rfl
 ·omega
 ·omega
 ·exact absurd (by decide) hu0
 ·exact l3Ins_2 zs k hz v1 E1 z0 z0' HOP
 ·exact l3Ins_3 zs k hz v1 E1 z0 z0' HOP
 ·exact absurd (by decide) hu3
 ·exact absurd (by decide) hu3
 ·exact l3Ins_6 zs k hz v1 E1 z0 z0' HOP
 ·exact absurd (by decide) hu3
 ·exact absurd (by decide) hu3
 ·exact absurd (by decide) hu3
 ·exact absurd (by decide) hu3
 ·exact absurd (by decide) hu3
 ·exact absurd (by decide) hu3
 ·exact absurd (by decide) hu3
 ·exact l3Ins_14 zs k hz v1 E1 z0 z0' HOP
 ·exact l3Ins_15 zs k hz v1 E1 z0 z0' HOP
 ·exact l3Ins_16 zs k hz v1 E1 z0 z0' HOP
 ·exact l3Ins_17 zs k hz v1 E1 z0 z0' HOP
 ·exact l3Ins_18 zs k hz v1 E1 z0 z0' HOP
 ·exact l3Ins_19 zs k hz v1 E1 z0 z0' HOP
 ·exact l3Ins_20 zs k hz v1 E1 z0 z0' HOP
 ·exact l3Ins_21 zs k hz v1 E1 z0 z0' HOP
 ·exact l3Ins_22 zs k hz v1 E1 z0 z0' HOP
 ·exact l3Ins_23 zs k hz v1 E1 z0 z0' HOP
 ·exact l3Ins_24 zs k hz v1 E1 z0 z0' HOP
 ·exact absurd (by decide) hu0
end Go.Proofs.YtngdgogjlpjjpadGreat
namespace Go.Proofs.YtngdgogjlpjjpadGreat
open Go.RowKit
set_option linter.unusedVariables false
set_option linter.unusedSimpArgs false
set_option maxRecDepth 100000
structure Dst (w W:World) (r:Nat) (a:Option Addr) (n c:Nat) (zs:List Int) (k:Nat):Prop where
 rd:Rdr W r a n c zs k
 t:Turn (fun j=>j=r) w W
 lt:r<w.heap.size
 code:n≠0→∀ b off,a=some ⟨b,off,none⟩→b<w.heap.size
theorem Dst.grow {w W W':World} {r:Nat} {a:Option Addr} {n c:Nat} {zs:List Int} {k:Nat} (h:Dst w W r a n c zs k) (ht:Turn (fun j=>w.heap.size≤j) W W'):Dst w W' r a n c zs k:=
 ⟨⟨turn_blk ht h.rd.blk (by have:=h.lt;omega),turn_bs' ht h.rd.bs (fun hn j hj b off e=>by have:=h.code hn b off e;omega),h.rd.small,h.rd.far⟩,⟨ht.os.trans h.t.os,ht.tape.trans h.t.tape,ht.output.trans h.t.output,Nat.le_trans h.t.size ht.size,fun j hj hs=>(ht.block j (Nat.lt_of_lt_of_le hj h.t.size) (by omega)).trans (h.t.block j hj hs)⟩,h.lt,h.code⟩
theorem Dst.sz {w W:World} {r:Nat} {a:Option Addr} {n c:Nat} {zs:List Int} {k:Nat} (h:Dst w W r a n c zs k):w.heap.size≤W.heap.size:=h.t.size
theorem Dst.below {w W W':World} {r:Nat} {a:Option Addr} {n c:Nat} {zs:List Int} {k:Nat} (h:Dst w W r a n c zs k) (hb:Below W.heap.size W W'):Dst w W' r a n c zs k:=h.grow (turn_below hb)
theorem Dst.grown {w W W':World} {r:Nat} {a:Option Addr} {n c:Nat} {zs:List Int} {k:Nat} {row:Option Nat} (h:Dst w W r a n c zs k) (hg:W.grownBy W' row) (hr:∀ j,row=some j→w.heap.size≤j):Dst w W' r a n c zs k:=
 h.grow ⟨hg.os,hg.tape,hg.output,hg.size,fun j hj hs=>hg.block j hj (fun e=>by have:=hr j e.symm;omega)⟩
theorem Dst.set {w W:World} {r:Nat} {a:Option Addr} {n c:Nat} {zs:List Int} {k:Nat} (h:Dst w W r a n c zs k) {g:Nat} (hg:w.heap.size≤g) (i:Nat) (v:Value):Dst w (W.setCell ⟨g,i,none⟩ v) r a n c zs k:=h.grow ((turn_set W g i v).mono (fun j hj=>by subst hj;exact hg))
theorem Dst.trans {w W W':World} {r:Nat} {a:Option Addr} {n c:Nat} {zs:List Int} {k k':Nat} (h:Dst w W r a n c zs k) (h':Dst W W' r a n c zs k'):Dst w W' r a n c zs k':=⟨h'.rd,h.t.trans h'.t,h.lt,h.code⟩
theorem Dst.new {W:World} {r:Nat} {a:Option Addr} {n c:Nat} {zs:List Int} {k:Nat} (rd:Rdr W r a n c zs k) (code:n≠0→∀ b off,a=some ⟨b,off,none⟩→b<W.heap.size):Dst W W r a n c zs k:=⟨rd,Turn.refl _ _,rd.blk.lt,code⟩
theorem Dst.fresh {w W:World} {r:Nat} {a:Option Addr} {n c:Nat} {zs:List Int} {k:Nat} (h:Dst w W r a n c zs k):Dst W W r a n c zs k:=Dst.new h.rd (fun hn b off e=>by have:=h.code hn b off e;have:=h.sz;omega)
theorem Dst.next {w W:World} {r:Nat} {a:Option Addr} {n c:Nat} {zs:List Int} {k:Nat} (h:Dst w W r a n c zs k) (x:Int) (hx:Hid (zs.getD k 0=x)):
 Calls Tryz.prog 51 #[.pointer (some ⟨r,0,none⟩)] W fun e w'=>e=.returned (.int .i64 x)∧Dst w w' r a n c zs (k+1)∧Turn (fun j=>j=r) W w':=
 (next_is r a n c zs k x W h.rd hx).mono fun e w' ⟨he,hr,ht⟩=>⟨he,⟨hr,h.t.trans ht,h.lt,h.code⟩,ht⟩
theorem mod_64k (v:Int):(v.tmod 65536+65536).tmod 65536=v % 65536:=by
 have hlt:-65536<v.tmod 65536:=Int.lt_tmod_of_pos v (by omega)
 rw [Int.tmod_eq_emod_of_nonneg (by omega)]
 have h:v.tmod 65536=v - 65536 * v.tdiv 65536:=by have:=Int.tmod_add_mul_tdiv v 65536;omega
 omega
set_option maxHeartbeats 400000 in
theorem l1Mod_64k (v:Int) (w:World) (hv:-9223372036854775808≤v∧v≤9223372036854775807):
 Calls Tryz.prog 157 #[.int .i64 v,.int .i64 65536] w fun e w'=>e=.returned (.int .i64 (v % 65536))∧w=w':=by
 have hlt:-65536<v.tmod 65536:=Int.lt_tmod_of_pos v (by omega)
 have hgt:v.tmod 65536<65536:=Int.tmod_lt_of_pos v (by omega)
 have HM:=hide (mod_64k v)
 go_enter Tryz.func157,Tryz.ntmps157
 go_wp2
 go_ret
 exact ⟨ret_int (by have:=HM.out;rwa [Int.tmod_eq_emod_of_nonneg (by omega)] at this),rfl⟩
def opW (o d x i:Int):Int:=encV o d x (i % 65536)
theorem encV_rg (op d a i:Int):0≤encV op d a i∧encV op d a i≤4294967295:=by
 unfold encV
 cases h:okI op d a i
 ·simp
 ·obtain ⟨h1,h2,h3,h4,h5,h6,h7,h8⟩:=okI_bounds h
  simp only [if_true,enc]
  omega
theorem opW_rng (o d x i:Int):0≤opW o d x i∧opW o d x i≤4294967295:=encV_rg _ _ _ _
set_option maxHeartbeats 400000 in
theorem l4Op_any (o d x i:Int) (w:World) (hv:-9223372036854775808≤i∧i≤9223372036854775807):
 Calls Tryz.prog 172 #[.int .i64 o,.int .i64 d,.int .i64 x,.int .i64 i] w fun e w'=>e=.returned (.int .i64 (opW o d x i))∧Below w.heap.size w w':=by
 go_enter Tryz.func172,Tryz.ntmps172
 go_wp2_with fail
 refine (l1Mod_64k i _ hv).mono ?_
 rintro e w1 ⟨rfl,rfl⟩
 go_wp2_with fail
 refine (sEncode_any o d x (i % 65536) _).mono ?_
 rintro e w2 ⟨rfl,hb2⟩
 go_wp2
 go_ret
 exact ⟨rfl,hb2⟩
theorem l4Op_is (o d x i:Int) (w:World) (o' d' x' i':Int) (h1:o=o') (h2:d=d') (h3:x=x') (h4:i=i') (hv:-1048576≤i'∧i'≤1048576):
 Calls Tryz.prog 172 #[.int .i64 o,.int .i64 d,.int .i64 x,.int .i64 i] w fun e w'=>e=.returned (.int .i64 (opW o' d' x' i'))∧Below w.heap.size w w':=by
 subst h1 h2 h3 h4
 exact l4Op_any o d x i w (by omega)
def RndD (zs:List Int) (k:Nat) (v:Int) (k':Nat):Prop:=∀ (w W:World) (r:Nat) (a:Option Addr) (n c:Nat) (h:Dst w W r a n c zs k),Calls Tryz.prog 276 #[.pointer (some ⟨r,0,none⟩)] W fun e w'=>e=.returned (.int .i64 v)∧Dst w w' r a n c zs k'∧Turn (fun j=>j=r) W w'
set_option maxHeartbeats 1000000 in
theorem rnd_fn (zs:List Int) (k:Nat) (hz:∀ j,0≤zs.getD j 0∧zs.getD j 0≤255):∃ (v:Int) (k':Nat),(0≤v∧v≤4294967295)∧RndD zs k v k':=by
 obtain ⟨o,d,x,i,k',hb,hc⟩:=l3Ins_fn zs k hz
 refine ⟨encV o d x i,k',encV_rg o d x i,fun w W r a n c h=>?_⟩
 have HC:=hide (hc r a n c W h.rd h.fresh.code)
 have H:=hide h
 clear hc hz h
 go_enter Tryz.func276,Tryz.ntmps276
 go_wp2_with fail
 refine HC.out.mono ?_
 rintro e w1 ⟨rfl,hr1,t1⟩
 go_wp2_with fail
 refine (sEncode_any o d x i _).mono ?_
 rintro e w2 ⟨rfl,hb2⟩
 go_wp2
 go_ret
 have t2:=t1.trans (turn_below hb2)
 exact ⟨rfl,⟨rdr_below hr1 hb2,H.out.t.trans t2,H.out.lt,H.out.code⟩,t2⟩
structure Dl (w W:World) (r:Nat) (a:Option Addr) (n c:Nat) (zs:List Int) (k:Nat) (v:Value) (xs:List Int):Prop where
 d:Dst w W r a n c zs k
 o:OG 3 1 clI W w.heap.size v xs
theorem Dl.below {w W W':World} {r:Nat} {a:Option Addr} {n c:Nat} {zs:List Int} {k:Nat} {v:Value} {xs:List Int} (h:Dl w W r a n c zs k v xs) (hb:Below W.heap.size W W'):Dl w W' r a n c zs k v xs:=⟨h.d.below hb,h.o.below hb⟩
theorem Dl.app {o:Oper} {ac:Act} {w W:World} {r:Nat} {a:Option Addr} {n c:Nat} {zs:List Int} {k:Nat} {v:Value} {xs X:List Int} {K:Act→World→Prop} {Q:Exit→Act→World→Prop} (hE:Dl w W r a n c zs k v xs) (s x:Operand)
 (ho:o.op=.call { callee:=.builtin .append,args:=#[s,x],argTypes:=#[29,29] }) (hs:ac.eval s=v) (ad:Addr) (m cp:Nat) (hx:ac.eval x=.slice (some ad) m cp) (hX:X.length=m) (hnews:∀ j u,(X.flatMap clI)[j]?=some u→W.cell? (ad.add j)=some u) (hn:xs.length+m≤40000)
 (h:∀ v' w',Dl w w' r a n c zs k v' (xs++X)→K (ac.put o.dst v') w'):o.wp Tryz.prog ac W K Q:=by
 obtain ⟨i0,hi,hz0,hz1,hz2⟩:=info_parts infoI
 have hl:(X.flatMap clI).length=m:=by rw [flat_clI,List.length_map,hX]
 refine wp_append_own W s x 29 ho w.heap.size 3 i0 (.int .i64 0) 1 8 Tryz.underlying29 hi hz0 hz1 hz2 rfl (by decide) v xs.length (xs.flatMap clI) hs hE.o ad m cp (X.flatMap clI) hx (by rw [hl,Nat.mul_one]) hnews (by intro u hu;rw [flat_clI,List.mem_map] at hu;obtain ⟨z,_,rfl⟩:=hu;rfl) (by unfold maxLen;omega) (by omega) hE.d.sz ?_
 intro v' w' hown hg _
 refine h v' w' ⟨hE.d.grown hg (fun j hj=>(hE.o.lt j hj).1),?_⟩
 unfold OG
 rw [List.length_append,hX,List.flatMap_append]
 exact hown
theorem list_dl {ops:Array Oper} {rest:List Oper} {o:Oper} {ac:Act} {w W:World} {r:Nat} {a:Option Addr} {n c:Nat} {zs:List Int} {k:Nat} {v:Value} {xs X:List Int} {Q:Exit→Act→World→Prop} (hE:Dl w W r a n c zs k v xs) (hgd:o.guard=none) (s x:Operand)
 (ho:o.op=.call { callee:=.builtin .append,args:=#[s,x],argTypes:=#[29,29] }) (hs:ac.eval s=v) (ad:Addr) (m cp:Nat) (hx:ac.eval x=.slice (some ad) m cp) (hX:X.length=m) (hnews:∀ j u,(X.flatMap clI)[j]?=some u→W.cell? (ad.add j)=some u) (hn:xs.length+m≤40000)
 (h:∀ v' w',Dl w w' r a n c zs k v' (xs++X)→wpList Tryz.prog ops Q rest (ac.put o.dst v') w'):wpList Tryz.prog ops Q (o :: rest) ac W:=
 wpList_plain hgd fun _ hK=>hE.app s x ho hs ad m cp hx hX hnews hn fun v' w' e=>hK _ _ (h v' w' e)
end Go.Proofs.YtngdgogjlpjjpadGreat
