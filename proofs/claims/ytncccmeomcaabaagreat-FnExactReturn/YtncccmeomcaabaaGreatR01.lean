import Derived.Laws.IdiomStrings
import Derived.Lib.Bytealg
import Derived.WideShapes
import Derived.Deep.RegionHeld3
import Derived.Laws.BitsLemmas
import Derived.Test.YtncccmeomcaabaaGreatR00
set_option linter.all false
set_option maxHeartbeats 2000000
namespace Go.Proofs.YtncccmeomcaabaaGreat
open Go.RowKit
open Go.Proofs.Tryz
set_option maxRecDepth 100000
variable {S:Nat->Prop}{a:qO}{b base cap g n o off sz:Nat}{v:Value}
theorem wU:(prog.info? 5).map (fun i=>(i.zero,i.size,i.bytes))=some (some (.int .u8 0),1,1):=by kernel_rfl
theorem aNl (n:Nat):(madeCells (Value.cells (.int .u8 0)) (n*1))=((List.replicate n (0:Int)).map (Value.int .u8)).toArray:=by
 apply Array.ext
 .simp [size_madeCells]
 .intro i h1 h2;simp [madeCells,Value.cells,Nat.mod_one]
theorem oW {w:qw}(h:w.ownsRow base 5 1 (qS (qP g) n n) n (madeCells (Value.cells (.int .u8 0)) (n*1)).toList):Row8 w g (List.replicate n 0):=by
 obtain ⟨hl,h|⟨g',cap,cur,hv,hb,hh,h1,h2,h3,h4⟩⟩:=h
 .simp at h
 .simp at hv;obtain ⟨rfl,rfl⟩:=hv;unfold Row8;rw [hh]
  have e:cur.toList=(madeCells (Value.cells (.int .u8 0)) (n*1)).toList:=by
   rw [<- h4,xG (by simp [h3])]
  have e2:cur=madeCells (Value.cells (.int .u8 0)) (n*1):=Array.toList_inj.1 e;rw [e2,aNl]
theorem aV {w w':qw}(h:w.grownBy w' none):qY w w':=brf.grown h aN (fun k hk=>by cases hk)
def mok (n1 n2 n3:Nat):Bool:=decide (n1<=16384/\n2<=16384/\n3<=5000)
theorem aDq (a1 a2 a3:qO)(n1 c1 n2 c2 n3 c3:Nat)(w:qw):
 qC 77 #[.agg (qV a1 n1 c1 a2 n2 c2 a3 n3 c3)] w (qB w (.bool (mok n1 n2 n3))):=by
 by_cases k1:(n1:Int)<=16384
 all_goals by_cases k2:(n2:Int)<=16384
 all_goals by_cases k3:(n3:Int)<=5000
 all_goals
  obtain ⟨r,hr⟩:=eqx (mok n1 n2 n3);have HR:Zh (r=mok n1 n2 n3):=hr;rw [<- hr];clear hr;go_enter func77,ntmps77
  go_wp2;go_ret;refine ⟨aA ?_,bal⟩;rw [HR.o];unfold mok;simp;try omega
theorem tI (a1 a2 a3:qO)(n1 c1 n2 c2 n3 c3:Nat)(w:qw):
 qC 192 #[.agg (qV a1 n1 c1 a2 n2 c2 a3 n3 c3)] w (qB w (.bool (mok n1 n2 n3))):=by
 by_cases k1:(n1:Int)<=16384
 all_goals by_cases k2:(n2:Int)<=16384
 all_goals by_cases k3:(n3:Int)<=5000
 all_goals
  obtain ⟨r,hr⟩:=eqx (mok n1 n2 n3);have HR:Zh (r=mok n1 n2 n3):=hr;rw [<- hr];clear hr;go_enter func192,ntmps192
  go_wp2;go_ret;refine ⟨aA ?_,bal⟩;rw [HR.o];unfold mok;simp;try omega
theorem Blk.three {w:qw}{a b c:Value}{t:TypeId}(h:Blk w g #[a,b,c] t):
 w.cell? (qR g 0)=some a/\w.cell? (qR g 1)=some b/\w.cell? (qR g 2)=some c/\∀ i,w.frozen? (qR g i)=false:=
 ⟨by rw [h.cell];rfl,by rw [h.cell];rfl,by rw [h.cell];rfl,fun i=>h.frozen i⟩
abbrev Rg:=Int×Int×Int×Bool×Bool×Bool
def z6:Rg:=(0,0,0,false,false,false)
def At6 (w:qw)(b o:Nat)(g:Rg):Prop:=
 w.cell? (qR b o)=some (qI g.1)/\w.cell? (qR b (o+1))=some (qI g.2.1)/\w.cell? (qR b (o+2))=some (qI g.2.2.1) /\
 w.cell? (qR b (o+3))=some (.bool g.2.2.2.1)/\w.cell? (qR b (o+4))=some (.bool g.2.2.2.2.1)/\w.cell? (qR b (o+5))=some (.bool g.2.2.2.2.2)
def wfi (z:Int):Prop:=-9223372036854775808<=z/\z<=9223372036854775807
def RS (w:qw)(a:qO)(n cap:Nat)(rs:List Rg):Prop:=
 rs.length=n/\n<=maxLen/\(∀ g∈rs,wfi g.1/\wfi g.2.1/\wfi g.2.2.1)/\(n≠0->∃ b off,a=some (qR b off)/\∀ i,i<n->At6 w b (off+i*6) (rs.getD i z6))/\n<=cap
theorem At6.bw {w w':qw}{g:Rg}(h:At6 w b o g)(hb:qY w w'):At6 w' b o g:=by
 obtain ⟨h1,h2,h3,h4,h5,h6⟩:=h;have hl:b<w.heap.size:=xD w _ h1;unfold At6;rw [hb.cell (p:=(qR b o)) hl,hb.cell (p:=(qR b (o+1))) hl,hb.cell (p:=(qR b (o+2))) hl,hb.cell (p:=(qR b (o+3))) hl,hb.cell (p:=(qR b (o+4))) hl,hb.cell (p:=(qR b (o+5))) hl];exact ⟨h1,h2,h3,h4,h5,h6⟩
theorem RS.bw {w w':qw}{rs:List Rg}(h:RS w a n cap rs)(hb:qY w w'):RS w' a n cap rs:=by
 obtain ⟨h1,h2,h3,h4,h5⟩:=h;refine ⟨h1,h2,h3,fun hn=>?_,h5⟩;obtain ⟨b,off,ha,hc⟩:=h4 hn;exact ⟨b,off,ha,fun i hi=>(hc i hi).bw hb⟩
theorem RS.some {w:qw}{rs:List Rg}(h:RS w a n cap rs)(hn:n≠0):∃ b off,a=Option.some (qR b off):=by
 obtain ⟨b,off,e,_⟩:=h.2.2.2.1 hn;exact ⟨b,off,e⟩
theorem RS.at {w:qw}{b off n cap:Nat}{rs:List Rg}(h:RS w (Option.some (qR b off)) n cap rs)(i:Nat)(hi:i<n):At6 w b (off+i*6) (rs.getD i z6):=by
 obtain ⟨b',off',e,hd⟩:=h.2.2.2.1 (by omega);simp at e;obtain ⟨rfl,rfl⟩:=e;exact hd i hi
theorem aF7:(prog.info? 214).map (fun i=>(i.zero,i.size,i.bytes))=some (some (.agg #[qI 0,qI 0,qI 0,.bool false,.bool false,.bool false]),6,32):=by kernel_rfl
def IS (w:qw)(a:qO)(n cap:Nat)(zs:qi):Prop:=
 zs.length=n/\n<=maxLen/\(∀ z∈zs,wfi z)/\(n≠0->∃ b off,a=some (qR b off)/\∀ i,i<n->w.cell? (qR b (off+i))=some (qI (zs.getD i 0)))/\n<=cap
theorem IS.bw {w w':qw}{zs:qi}(h:IS w a n cap zs)(hb:qY w w'):IS w' a n cap zs:=by
 obtain ⟨h1,h2,h3,h4,h5⟩:=h;refine ⟨h1,h2,h3,fun hn=>?_,h5⟩;obtain ⟨b,off,ha,hc⟩:=h4 hn;refine ⟨b,off,ha,fun i hi=>?_⟩;have:=hc i hi;rw [hb.cell (p:=(qR b (off+i))) (xD w _ this)];exact this
theorem IS.range {w:qw}{zs:qi}(h:IS w a n cap zs)(i:Nat):wfi (zs.getD i 0):=by
 by_cases hi:i<zs.length
 .have:=h.2.2.1 zs[i] (List.getElem_mem hi);simpa [xB,hi] using this
 .simp [xB,Nat.le_of_not_lt hi,wfi]
def RowI (w:qw)(g:Nat)(zs:qi):Prop:=w.heap[g]?=some (.cells (zs.map (Value.int .i64)).toArray 3 (0,0))
theorem RowI.cell {w:qw}{zs:qi}(h:RowI w g zs)(i:Nat)(hi:i<zs.length):w.cell? (qR g i)=some (qI (zs.getD i 0)):=by
 rw [cell_of_row w g i _ _ _ h];simp [xB,hi]
theorem RowI.frozen {w:qw}{zs:qi}(h:RowI w g zs)(i:Nat):w.frozen? (qR g i)=false:=frozen_of_row w g i _ _ h
theorem RowI.set {w:qw}{zs:qi}(h:RowI w g zs)(i:Nat)(z:Int):RowI (w.setCell (qR g i) (qI z)) g (zs.set i z):=by
 unfold RowI at *;rw [heap_setCell_same w g i _ _ _ h];simp [List.map_set]
theorem RowI.lt {w:qw}{zs:qi}(h:RowI w g zs):g<w.heap.size:=by
 unfold RowI at h;by_cases hg:g<w.heap.size
 .exact hg
 .simp [Array.getElem?_eq_none (Nat.le_of_not_lt hg)] at h
theorem RowI.bw {w w':qw}{zs:qi}(h:RowI w g zs)(hb:qY w w'):RowI w' g zs:=by
 have:=hb.block g h.lt;unfold RowI at *;rw [this];exact h
theorem RowI.is {w:qw}{zs:qi}(h:RowI w g zs)(hm:zs.length<=maxLen)(hz:∀ z∈zs,wfi z)(n cap:Nat)(hn:zs.length=n)(hc:n<=cap:=by exact aN):IS w (qP g) n cap zs:=by
 subst hn;exact ⟨rfl,hm,hz,fun _=>⟨g,0,rfl,fun i hi=>by rw [Nat.zero_add];exact h.cell i hi⟩,hc⟩
theorem jL:(prog.info? 3).map (fun i=>(i.zero,i.size,i.bytes))=some (some (qI 0),1,8):=by kernel_rfl
theorem aPm (n:Nat):(madeCells (Value.cells (qI 0)) (n*1))=((List.replicate n (0:Int)).map (Value.int .i64)).toArray:=by
 apply Array.ext
 .simp [size_madeCells]
 .intro i h1 h2;simp [madeCells,Value.cells,Nat.mod_one]
theorem iV {w:qw}(h:w.ownsRow base 3 1 (qS (qP g) n n) n (madeCells (Value.cells (qI 0)) (n*1)).toList):RowI w g (List.replicate n 0):=by
 obtain ⟨hl,h|⟨g',cap,cur,hv,hb,hh,h1,h2,h3,h4⟩⟩:=h
 .simp at h
 .simp at hv;obtain ⟨rfl,rfl⟩:=hv;unfold RowI;rw [hh]
  have e:cur.toList=(madeCells (Value.cells (qI 0)) (n*1)).toList:=by
   rw [<- h4,xG (by simp [h3])]
  have e2:cur=madeCells (Value.cells (qI 0)) (n*1):=Array.toList_inj.1 e;rw [e2,aPm]
theorem gA (a:qO)(n cap:Nat)(l:Int)(w:qw)(h0:0<=l)(h1:l<=1048576)(hn:n<=maxLen):
 qC 72 #[qS a n cap,qI l] w fun e w'=>e=.returned (qI (if l<n then -1 else l-n))/\w'=w:=by
 unfold maxLen at hn;by_cases h:l<n
 .go_enter func72,ntmps72
  go_wp2;go_ret;exact ⟨rfl,rfl⟩
 .go_enter func72,ntmps72
  go_wp2;go_ret;exact ⟨rfl,rfl⟩
theorem iQ (a:qO)(n cap:Nat)(zs:qi)(w:qw)(h:IS w a n cap zs)(hn:n<=1048576):
 qC 15 #[qS a n cap] w fun e w'=>e=.returned (qS (qP w.heap.size) n n)/\RowI w' w.heap.size zs/\qY w w':=by
 obtain ⟨i0,hi,hz0,hz1,hz2⟩:=info_parts jL;obtain ⟨hl,hmx,hr,hc,_⟩:=h;by_cases hn0:n=0
 .subst hn0;obtain rfl:zs=[]:=xE hl;clear hc;go_enter func15,ntmps15
  go_wp2_with (at_make;refine wpList_make_full _ rfl _ _ 25 rfl w.heap.size 3 i0 (qI 0) 1 underlying25 hi hz0 hz1 .i64 .i64 _ _ 0 rfl rfl rfl rfl (by omega) (by unfold maxLen;omega) aN ?_;intro w1 hown hgr)
  have hrow:=iV hown;have hbel:=aV hgr;clear hown hgr;go_loop [4] (fun i=>i=qI 0) (fun _=>0)
  .rfl
  .obtain rfl:=hrel;go_wp2;go_ret;exact ⟨rfl,hrow,hbel⟩
 .obtain ⟨b,off,rfl,hd⟩:=hc hn0;clear hc;go_enter func15,ntmps15
  go_wp2_with (at_make;refine wpList_make_full _ rfl _ _ 25 rfl w.heap.size 3 i0 (qI 0) 1 underlying25 hi hz0 hz1 .i64 .i64 _ _ n rfl rfl rfl rfl (by rw [hz2];omega) (by unfold maxLen;omega) aN ?_;intro w1 hown hgr)
  have hrow:=iV hown;have hbel:=aV hgr;clear hown hgr hi hz0 hz1 hz2;go_loopw [4] (fun i wr=>∃ k:Nat,k<=n/\i=qI k/\RowI wr w.heap.size (mid zs k)/\qY w wr) (qf n)
  .exact ⟨0,xC _,rfl,by rw [sM,hl];exact hrow,hbel⟩
  .obtain ⟨k,hk,rfl,hR,hB⟩:=hrel;clear hrow hbel;by_cases hlt:k<n
   .have hlt':(k:Int)<(n:Int):=by omega
    have hck:wr.cell? (qR b (off+k))=some (qI (zs.getD k 0)):=(hB.cell (xD w _ (hd k hlt))).trans (hd k hlt);have hgk:wr.cell? (qR w.heap.size k)=some (qI ((mid zs k).getD k 0)):=hR.cell k (by rw [aAh];omega);have hfk:wr.frozen? (qR w.heap.size k)=false:=hR.frozen k;have R':=hR.set k (zs.getD k 0);rw [aAg zs k (by omega)] at R';have B':qY w (wr.setCell (qR w.heap.size k) (qI (zs.getD k 0))):=hB.setCell aN _;have HR:=R';have HB:=B';generalize zs.getD k 0=z at *;generalize (mid zs k).getD k 0=z0 at *;clear hd hR hB;go_wp2
    go_roundw
    .exact ⟨k+1,by omega,by go_num,HR,HB⟩
    .simp [qf,intOf];omega
   .have e:Zh (k=n):=by show k=n;omega
    go_wp2;go_ret;exact ⟨rfl,by rw [e.o,<- hl,aAi] at hR;exact hR,hB⟩
theorem gV (xs ys:qi)(k:Nat)(h:xs.take k=ys.take k)(hx:k<xs.length)(hy:k<ys.length)(he:xs.getD k 0=ys.getD k 0):xs.take (k+1)=ys.take (k+1):=by
 rw [List.take_succ_eq_append_getElem hx,List.take_succ_eq_append_getElem hy,h];simp [xB,hx,hy] at he;rw [he]
theorem jF (a a':qO)(n cap n' cap':Nat)(xs ys:qi)(w:qw)(h:IS w a n cap xs)(h':IS w a' n' cap' ys):
 qC 17 #[qS a n cap,qS a' n' cap'] w (qB w (.bool (decide (xs=ys)))):=by
 obtain ⟨hl,hmx,hr,hc,_⟩:=h;obtain ⟨hl',hmx',hr',hc',_⟩:=h';unfold maxLen at hmx hmx';by_cases hn:n=n'
 .subst hn;have hne:((n:Int) !=(n:Int))=false:=by simp
  by_cases hn0:n=0
  .subst hn0;obtain rfl:xs=[]:=xE hl;obtain rfl:ys=[]:=xE hl';clear hc hc';go_enter func17,ntmps17
   go_wp2;go_loop [5] (fun i=>i=qI 0) (fun _=>0)
   .rfl
   .obtain rfl:=hrel;go_wp2;go_ret;exact ⟨rfl,brf⟩
  .obtain ⟨b,off,rfl,hd⟩:=hc hn0;obtain ⟨b',off',rfl,hd'⟩:=hc' hn0;clear hc hc';go_enter func17,ntmps17
   go_wp2;go_loopw [5] (fun i wr=>∃ k:Nat,k<=n/\i=qI k/\xs.take k=ys.take k/\qY w wr) (qf n)
   .exact ⟨0,xC _,rfl,by simp,brf⟩
   .obtain ⟨k,hk,rfl,hT,hB⟩:=hrel;by_cases hlt:k<n
    .have hlt':(k:Int)<(n:Int):=by omega
     have hck:wr.cell? (qR b (off+k))=some (qI (xs.getD k 0)):=(hB.cell (xD w _ (hd k hlt))).trans (hd k hlt);have hck':wr.cell? (qR b' (off'+k))=some (qI (ys.getD k 0)):=(hB.cell (xD w _ (hd' k hlt))).trans (hd' k hlt);by_cases he:xs.getD k 0=ys.getD k 0
     .have hS:=gV xs ys k hT (by omega) (by omega) he;have HS:Zh (xs.take (k+1)=ys.take (k+1)):=hS;rw [he] at hck;clear hS hT hd hd' he;generalize ys.getD k 0=z at *;have hz:(z !=z)=false:=by simp
      go_wp2
      go_quiet (fail)
      go_wp2
      go_roundw
      .exact ⟨k+1,by omega,by go_num,HS.o,below_drewN hB _⟩
      .simp [qf,intOf];omega
     .have hf:Zh (decide (xs=ys)=false):=by
       show _=_;simp;intro e;exact he (by rw [e])
      have hz:(xs.getD k 0 !=ys.getD k 0)=true:=by simpa using he
      clear hT hd hd' he;generalize ys.getD k 0=z at *;generalize xs.getD k 0=z' at *;go_wp2
      go_quiet (fail)
      go_wp2;go_ret;exact ⟨aA hf.o.symm,below_drewN hB _⟩
    .have hf:Zh (decide (xs=ys)=true):=by
      show _=_;simp;rw [xG (by omega),xG (by omega)] at hT;exact hT
     clear hT hd hd';go_wp2;go_ret;exact ⟨aA hf.o.symm,hB⟩
 .have hf:Zh (decide (xs=ys)=false):=by
   show _=_;simp;intro e;rw [e] at hl;omega
  have hne:((n:Int) !=(n':Int))=true:=by simp;omega
  clear hc hc';go_enter func17,ntmps17
  go_wp2;go_ret;exact ⟨aA hf.o.symm,brf⟩
theorem wG (w:qw)(d:Int)(h0:0<=d)(h1:d<=255):(convert 28 9 (qS (qP w.heap.size) 1 1)).run prog (w.alloc (.cells #[.int .u8 d] 5))=.ok (.string ⟨#[UInt8.ofNat d.toNat]⟩) (w.alloc (.cells #[.int .u8 d] 5)):=by
 have e:((UInt8.ofNat d.toNat).toNat:Int)=d:=by
  have:(UInt8.ofNat d.toNat).toNat=d.toNat%256:=UInt8.toNat_ofNat';omega
 refine run_convert_bytes_back (P:=prog) (w.alloc (.cells #[.int .u8 d] 5)) 28 9 5 (qR w.heap.size 0) 1 [UInt8.ofNat d.toNat] underlying28 underlying5 underlying9 ?_;intro j hj;obtain rfl:j=0:=by simp at hj;omega
 rw [bN,Blk.cell (Blk.new w _ _)];exact congrArg (fun z=>some (Value.int .u8 z)) e.symm
theorem jA (k:Nat)(w:qw)(hk:k<=8388608):qC 103 #[qI k] w fun e w'=>∃ s,e=.returned (.string s)/\s.size<=8388610/\qY w w':=by
 by_cases h0:k=0
 .subst h0;go_enter func103,ntmps103
  go_wp2;go_ret;exact ⟨_,rfl,by decide,brf⟩
 have hk0:0<(k:Int):=by omega
 go_enter func103,ntmps103
 go_wp2_with fail
 go_loopw [0,3] (fun x o wr=>∃ (m:Nat) (s:ByteArray),x=qI m/\o=.string s/\s.size+m<=8388608/\qY w wr) (fun x _ _=>(intOf x).toNat)
 .exact ⟨k,⟨#[]⟩,rfl,rfl,by show 0+k<=_;omega,brf⟩
 .obtain ⟨m,s,rfl,rfl,hm,hB⟩:=hrel;clear hk hk0 h0;by_cases hlt:0<m
  .have hlt':0<(m:Int):=by omega
   have hcv:=fun (W:qw)=>wG W (48+(m:Int)%10) (by omega) (by omega);have HB:=zh hB;have hBs:=hB.size;clear hB;go_wp2
   go_roundw
   .refine ⟨m/10,_,by go_num,rfl,?_,HB.o.alloc hBs _⟩;simp [ByteArray.size_append];have e1:(⟨#[48+UInt8.ofNat (m%10)]⟩:ByteArray).size=1:=rfl;omega
   .simp [intOf];omega
  .obtain rfl:m=0:=by omega
   go_wp2;go_ret;exact ⟨_,rfl,by have e1:(⟨#[109]⟩:ByteArray).size=1:=rfl;simp only [ByteArray.size_append];omega,hB⟩
def mtf:Nat -> Nat -> ByteArray -> ByteArray
 | 0,_,s=>s
 | f+1,k,s=>if k=0 then s else mtf f (k/10) (⟨#[UInt8.ofNat ((48+(k:Int)%10).toNat)]⟩++s)
theorem mtf_same:∀ (f g k:Nat) (s:ByteArray),k<=f -> k<=g -> mtf f k s=mtf g k s
 | 0,0,_,_,_,_=>rfl
 | 0,g+1,k,s,h,_=>by rw [show k=0 by omega];rfl
 | f+1,0,k,s,_,h=>by rw [show k=0 by omega];rfl
 | f+1,g+1,k,s,h,i=>by
  unfold mtf
  split
  · rfl
  · exact mtf_same f g _ _ (by omega) (by omega)
def mtd (k:Nat)(s:ByteArray):ByteArray:=mtf k k s
theorem aJt (s:ByteArray):mtd 0 s=s:=rfl
theorem aJu (k:Nat)(s:ByteArray)(h:0<k):mtd k s=mtd (k/10) (⟨#[UInt8.ofNat ((48+(k:Int)%10).toNat)]⟩++s):=by
 obtain ⟨j,rfl⟩:∃ j,k=j+1:=⟨k-1,by omega⟩
 show mtf (j+1) (j+1) s=_
 unfold mtf
 rw [if_neg (by omega)]
 exact mtf_same _ _ _ _ (by omega) (by omega)
def mtx (k:Nat):ByteArray:=⟨#[109]⟩++mtd k ⟨#[]⟩
theorem dK (k:Nat)(w:qw)(h0:0<k:=by omega)(hk:k<=67108864:=by omega):qC 103 #[qI k] w (qB w (.string (mtx k))):=by
 have hk0:0<(k:Int):=by omega
 go_enter func103,ntmps103
 go_wp2_with fail
 go_loopw [0,3] (fun x o wr=>∃ (m:Nat) (s:ByteArray),x=qI m/\o=.string s/\s.size+m<=67108864/\Hid (mtd m s=mtd k ⟨#[]⟩)/\qY w wr) (fun x _ _=>(intOf x).toNat)
 .exact ⟨k,⟨#[]⟩,rfl,rfl,by show 0+k<=_;omega,zh rfl,brf⟩
 .obtain ⟨m,s,rfl,rfl,hm,HM,hB⟩:=hrel;clear hk hk0 h0;by_cases hlt:0<m
  .have hlt':0<(m:Int):=by omega
   have hcv:=fun (W:qw)=>wG W (48+(m:Int)%10) (by omega) (by omega);have HB:=zh hB;have hBs:=hB.size;have HS:=zh (aJu m s hlt);generalize hd:UInt8.ofNat ((48+(m:Int)%10).toNat)=d at *;have HD:=zh hd;clear hB hd;go_wp2
   go_roundw
   .refine ⟨m/10,⟨#[d]⟩++s,by go_num,rfl,?_,zh (by rw [<- HM.out,HS.o]),HB.o.alloc hBs _⟩;rw [ByteArray.size_append];have e1:(⟨#[d]⟩:ByteArray).size=1:=rfl;omega
   .simp [intOf];omega
  .obtain rfl:m=0:=by omega
   have HM2:=zh (show mtx k=⟨#[109]⟩++s by unfold mtx;rw [<- HM.out,aJt]);go_wp2;go_ret;exact ⟨by rw [HM2.o];rfl,hB⟩
def Shp (w w':qw):Prop:=∀ g cs t,Blk w g cs t->∃ cs':Array Value,Blk w' g cs' t/\cs'.size=cs.size
theorem Shp.refl (w:qw):Shp w w:=fun g cs t h=>⟨cs,h,rfl⟩
theorem Shp.trans {a b c:qw}(h:Shp a b)(k:Shp b c):Shp a c:=fun g cs t hb=>by
 obtain ⟨c1,h1,e1⟩:=h g cs t hb;obtain ⟨c2,h2,e2⟩:=k g c1 t h1;exact ⟨c2,h2,e2.trans e1⟩
theorem Shp.bw {w w':qw}(h:qY w w'):Shp w w':=fun g cs t hb=>⟨cs,hb.bw h,rfl⟩
theorem Shp.set (w:qw)(k i:Nat)(v:Value):Shp w (w.setCell (qR k i) v):=fun g cs t hb=>by
 by_cases e:g=k
 .subst e;exact ⟨_,hb.set i v,by simp⟩
 .exact ⟨cs,hb.other _ _ e,rfl⟩
structure Mkd (S:Nat->Prop)(w w':qw):Prop where
 turn:Turn S w w'
 shp:Shp w w'
theorem Mkd.refl (S:Nat->Prop)(w:qw):Mkd S w w:=⟨Turn.refl _ _,Shp.refl _⟩
theorem Mkd.trans {a b c:qw}(h:Mkd S a b)(k:Mkd S b c):Mkd S a c:=⟨h.turn.trans k.turn,h.shp.trans k.shp⟩
theorem Mkd.bw {w w':qw}(h:qY w w'):Mkd S w w':=⟨aJ h,Shp.bw h⟩
theorem Mkd.set {w w':qw}(h:Mkd S w w')(k i:Nat)(v:Value)(hk:S k):Mkd S w (w'.setCell (qR k i) v):=
 h.trans ⟨⟨rfl,rfl,rfl,by rw [aL];exact aN,fun j _ hj=>heap_setCell_other _ _ _ _ (fun e=>hj (by rw [e];exact hk))⟩,Shp.set _ _ _ _⟩
theorem Mkd.mono {S':Nat->Prop}{w w':qw}(h:Mkd S w w')(hs:∀ k,S k->S' k):Mkd S' w w':=⟨h.turn.mono hs,h.shp⟩
def Sl (S:Nat->Prop)(w:qw)(a:qO)(n sz:Nat):Prop:=n≠0->∃ g o cs t,a=some (qR g o)/\S g/\Blk w g cs t/\o+n*sz<=cs.size
theorem Sl.shp {w w':qw}(h:Sl S w a n sz)(m:Shp w w'):Sl S w' a n sz:=fun hn=>by
 obtain ⟨g,o,cs,t,ha,hs,hb,hl⟩:=h hn;obtain ⟨cs',hb',e⟩:=m g cs t hb;exact ⟨g,o,cs',t,ha,hs,hb',by omega⟩
theorem Sl.ofBlk {w:qw}{c:Nat}{cs:Array Value}{t:TypeId}(hb:Blk w g cs t)(hS:S g)(hs:n*sz<=cs.size):Sl S w (qP g) n sz:=fun _=>⟨g,0,cs,t,rfl,hS,hb,by omega⟩
theorem Sl.cell {w:qw}(h:Sl S w (some (qR g o)) n sz)(hn:n≠0)(i:Nat)(hi:i<n*sz):(∃ u,w.cell? (qR g (o+i))=some u)/\w.frozen? (qR g (o+i))=false/\S g:=by
 obtain ⟨g',o',cs,t,ha,hs,hb,hl⟩:=h hn;simp at ha;obtain ⟨rfl,rfl⟩:=ha;exact ⟨⟨cs[o+i]'(by omega),by rw [hb.cell];simp [show o+i<cs.size by omega]⟩,hb.frozen _,hs⟩
theorem Sl.addr {w:qw}(h:Sl S w a n sz)(hn:n≠0):∃ g o,a=some (qR g o):=by
 obtain ⟨g,o,_,_,ha,_⟩:=h hn;exact ⟨g,o,ha⟩
theorem jX (S:Nat->Prop)(a:qO)(n cap k:Nat)(w:qw)(h:Sl S w a n 1)(hn:n<=1048576)(hk:k<=6291456):
 qC 18 #[qS a n cap,qI k] w fun e w'=>e=.returned (qI ((k+n:Nat):Int))/\Mkd S w w':=by
 go_enter func18,ntmps18
 go_wp2;go_loopw [1,5] (fun x i wr=>∃ m:Nat,m<=n/\i=qI m/\x=qI ((k+m:Nat):Int)/\Mkd S w wr) (fun _ i _=>n-(intOf i).toNat)
 .exact ⟨0,xC _,rfl,rfl,Mkd.refl _ _⟩
 .obtain ⟨m,hm,rfl,rfl,M⟩:=hrel;by_cases hlt:m<n
  .have hlt':(m:Int)<(n:Int):=by omega
   obtain ⟨g,o,rfl⟩:=h.addr (by omega);obtain ⟨⟨u,c0⟩,f0,hS⟩:=(h.shp M.shp).cell (by omega) m (by omega);have HM:=zh (fun v=>M.set g (o+m) v hS);clear M;go_wp2
   go_roundw
   .exact ⟨m+1,by omega,by go_num,by go_num,HM.o _⟩
   .simp [intOf];omega
  .obtain rfl:m=n:=by omega
   go_wp2;go_ret;exact ⟨by go_num,M⟩
theorem aAl (S:Nat->Prop)(a:qO)(n cap k:Nat)(w:qw)(h:Sl S w a n 1)(hn:n<=1048576)(hk:k<=6291456):
 qC 105 #[qS a n cap,qI k] w fun e w'=>e=.returned (qI ((k+n:Nat):Int))/\Mkd S w w':=by
 go_enter func105,ntmps105
 go_wp2;go_loopw [1,5] (fun x i wr=>∃ m:Nat,m<=n/\i=qI m/\x=qI ((k+m:Nat):Int)/\Mkd S w wr) (fun _ i _=>n-(intOf i).toNat)
 .exact ⟨0,xC _,rfl,rfl,Mkd.refl _ _⟩
 .obtain ⟨m,hm,rfl,rfl,M⟩:=hrel;by_cases hlt:m<n
  .have hlt':(m:Int)<(n:Int):=by omega
   obtain ⟨g,o,rfl⟩:=h.addr (by omega);obtain ⟨⟨u,c0⟩,f0,hS⟩:=(h.shp M.shp).cell (by omega) m (by omega);have HM:=zh (fun v=>M.set g (o+m) v hS);clear M;go_wp2
   go_roundw
   .exact ⟨m+1,by omega,by go_num,by go_num,HM.o _⟩
   .simp [intOf];omega
  .obtain rfl:m=n:=by omega
   go_wp2;go_ret;exact ⟨by go_num,M⟩
theorem sN (S:Nat->Prop)(a:qO)(n cap k:Nat)(w:qw)(h:Sl S w a n 1)(hn:n<=1048576)(hk:k<=6291456):
 qC 106 #[qS a n cap,qI k] w fun e w'=>e=.returned (qI ((k+n:Nat):Int))/\Mkd S w w':=by
 go_enter func106,ntmps106
 go_wp2;go_loopw [1,5] (fun x i wr=>∃ m:Nat,m<=n/\i=qI m/\x=qI ((k+m:Nat):Int)/\Mkd S w wr) (fun _ i _=>n-(intOf i).toNat)
 .exact ⟨0,xC _,rfl,rfl,Mkd.refl _ _⟩
 .obtain ⟨m,hm,rfl,rfl,M⟩:=hrel;by_cases hlt:m<n
  .have hlt':(m:Int)<(n:Int):=by omega
   obtain ⟨g,o,rfl⟩:=h.addr (by omega);have HT:=zh (jA (k+m) wr (by omega));go_wp2_with fail
   refine HT.o.mono ?_;rintro e w1 ⟨s,rfl,hs,hb⟩;have M1:Mkd S w w1:=M.trans (Mkd.bw hb);obtain ⟨⟨u,c0⟩,f0,hS⟩:=(h.shp M1.shp).cell (by omega) m (by omega);have HM:=zh (fun v=>M1.set g (o+m) v hS);clear M M1 hb HT;go_wp2
   go_roundw
   .exact ⟨m+1,by omega,by go_num,by go_num,HM.o _⟩
   .simp [intOf];omega
  .obtain rfl:m=n:=by omega
   go_wp2;go_ret;exact ⟨by go_num,M⟩
theorem sR (S:Nat->Prop)(a:qO)(n cap k:Nat)(w:qw)(h:Sl S w a n 3)(hn:n<=1048576)(hk:k<=4194304):
 qC 107 #[qS a n cap,qI k] w fun e w'=>e=.returned (qI ((k+3*n:Nat):Int))/\Mkd S w w':=by
 go_enter func107,ntmps107
 go_wp2;go_loopw [1,5] (fun x i wr=>∃ m:Nat,m<=n/\i=qI m/\x=qI ((k+3*m:Nat):Int)/\Mkd S w wr) (fun _ i _=>n-(intOf i).toNat)
 .exact ⟨0,xC _,rfl,rfl,Mkd.refl _ _⟩
 .obtain ⟨m,hm,rfl,rfl,M⟩:=hrel;by_cases hlt:m<n
  .have hlt':(m:Int)<(n:Int):=by omega
   obtain ⟨g,o,rfl⟩:=h.addr (by omega);have HT:=zh (jA (k+3*m) wr (by omega));go_wp2_with fail
   refine HT.o.mono ?_;rintro e w1 ⟨s,rfl,hs,hb⟩;have M1:Mkd S w w1:=M.trans (Mkd.bw hb);obtain ⟨⟨u,c0⟩,f0,hS⟩:=(h.shp M1.shp).cell (by omega) (m*3) (by omega);obtain ⟨⟨u1,c1⟩,f1,_⟩:=(h.shp M1.shp).cell (by omega) (m*3+1) (by omega);obtain ⟨⟨u2,c2⟩,f2,_⟩:=(h.shp M1.shp).cell (by omega) (m*3+2) (by omega);rw [<- Nat.add_assoc] at c1 f1 c2 f2;have HM:=zh (fun v v1 v2=>((M1.set g (o+m*3) v hS).set g (o+m*3+1) v1 hS).set g (o+m*3+2) v2 hS);clear M M1 hb HT;go_wp2
   go_roundw
   .exact ⟨m+1,by omega,by go_num,by go_num,HM.o _ _ _⟩
   .simp [intOf];omega
  .obtain rfl:m=n:=by omega
   go_wp2;go_ret;exact ⟨by go_num,M⟩
structure SlB (S:Nat->Prop)(w:qw)(a:qO)(n:Nat)(f:Nat->qO×Nat×Nat):Prop where
 head:n≠0->∃ g o cs t,a=some (qR g o)/\¬ S g/\Blk w g cs t/\∀ i,i<n->cs[o+i]?=some (.slice (f i).1 (f i).2.1 (f i).2.2)
 rows:∀ i,i<n->Sl S w (f i).1 (f i).2.1 1
theorem SlB.kept {w w':qw}{f:Nat->qO×Nat×Nat}(h:SlB S w a n f)(m:Mkd S w w'):SlB S w' a n f:=
 ⟨fun hn=>by obtain ⟨g,o,cs,t,ha,hs,hb,hl⟩:=h.head hn;exact ⟨g,o,cs,t,ha,hs,aF m.turn hb hs,hl⟩,fun i hi=>(h.rows i hi).shp m.shp⟩
def bJ (f:Nat->qO×Nat×Nat):Nat->Nat
 | 0=>0
 | n+1=>bJ f n+(f n).2.1
theorem pY (f:Nat->qO×Nat×Nat):∀ n i,i<n->(f i).2.1+bJ f i<=bJ f n
 | 0,i,h=>by omega
 | n+1,i,h=>by
   show _<=bJ f n+(f n).2.1;by_cases e:i=n
   .subst e;omega
   .have:=pY f n i (by omega);omega
theorem aAk (S:Nat->Prop)(a:qO)(n cap k:Nat)(f:Nat->qO×Nat×Nat)(w:qw)(h:SlB S w a n f)(hn:n<=1048576)(hs:bJ f n<=1048576)(hk:k<=4194304):
 qC 104 #[qS a n cap,qI k] w fun e w'=>e=.returned (qI ((k+bJ f n:Nat):Int))/\Mkd S w w':=by
 go_enter func104,ntmps104
 go_wp2;go_loopw [1,5] (fun x i wr=>∃ m:Nat,m<=n/\i=qI m/\x=qI ((k+bJ f m:Nat):Int)/\Mkd S w wr) (fun _ i _=>n-(intOf i).toNat)
 .exact ⟨0,xC _,rfl,rfl,Mkd.refl _ _⟩
 .obtain ⟨m,hm,rfl,rfl,M⟩:=hrel;by_cases hlt:m<n
  .have hlt':(m:Int)<(n:Int):=by omega
   have hM:=h.kept M;obtain ⟨g,o,cs,t,rfl,_,hb,hc⟩:=hM.head (by omega);have c0:=(hb.cell (o+m)).trans (hc m hlt);have hle:=pY f n m hlt;have HSU:Zh (bJ f (m+1)=bJ f m+(f m).2.1):=rfl;have HK:=zh (fun k hk=>jX S (f m).1 (f m).2.1 (f m).2.2 k wr (hM.rows m hlt) (by omega) hk);generalize bJ f m=sm at *;generalize f m=fm at *;obtain ⟨fa,fn,fc⟩:=fm;dsimp only at *;clear hM hb hc;go_wp2_with fail
   refine (HK.o (k+sm) (by omega)).mono ?_;rintro e w1 ⟨rfl,M1⟩;have HM:=zh (M.trans M1);clear M M1 HK c0;go_wp2
   go_roundw
   .exact ⟨m+1,by omega,by go_num,by rw [HSU.o];go_num,HM.o⟩
   .simp [intOf];omega
  .obtain rfl:m=n:=by omega
   go_wp2;go_ret;exact ⟨by go_num,M⟩
def byt (s:ByteArray)(k:Nat):Int:=((s.get! k).toNat:Int)
theorem oT (s:ByteArray)(k:Nat):0<=byt s k/\byt s k<=255:=by
 unfold byt;have:=(s.get! k).toNat_lt;omega
theorem aCy (s:ByteArray)(k:Nat)(h:k<s.size):s.get! k=s[k]'h:=by
 simp only [ByteArray.get!,getElem!_def];have:s.data[k]?=some (s.data[k]'h):=Array.getElem?_eq_getElem h;rw [this];rfl
theorem nO (s:ByteArray)(k:Nat)(h:k<s.size)(w:qw):(Instr.index 9 (.string s) (qI (k:Int))).run prog w=.ok (.int .u8 (byt s k)) w:=by
 rw [run_index_string w 9 s .i64 (k:Int) underlying9,dif_pos (by omega)];simp only [byt,xY,aCy s k h]
def nmo (s:ByteArray):Bool:=decide (1<=s.size/\s.size<=12)&&(List.range s.size).all fun k=>decide (97<=byt s k/\byt s k<=122)
theorem aF1 (s:ByteArray)(k:Nat)(hk:k<s.size)(h:¬ (97<=byt s k/\byt s k<=122)):nmo s=false:=by
 unfold nmo;rw [Bool.and_eq_false_iff];right;rw [List.all_eq_false];exact ⟨k,by simpa using hk,by simpa using h⟩
theorem aCe (s:ByteArray)(h:∀ j,j<s.size->97<=byt s j/\byt s j<=122):nmo s=decide (1<=s.size/\s.size<=12):=by
 unfold nmo;rw [show ((List.range s.size).all fun k=>decide (97<=byt s k/\byt s k<=122))=true from List.all_eq_true.2 (fun k hk=>by simpa using h k (by simpa using hk)),Bool.and_true]
theorem fV (s:ByteArray)(w:qw)(hs:s.size<=1048576):
 qC 170 #[.string s] w fun e w'=>e=.returned (.bool (nmo s))/\w=w':=by
 obtain ⟨N,hN⟩:=eqx (s.size);go_enter func170,ntmps170
 go_wp2_with fail
 go_loop [3] (fun i=>∃ k:Nat,k<=s.size/\i=qI k/\Hid (∀ j,j<k->97<=byt s j/\byt s j<=122)) (fun i=>s.size-(intOf i).toNat)
 .exact ⟨0,xC _,rfl,zh (fun j hj=>by omega)⟩
 .obtain ⟨k,hk,rfl,HJ⟩:=hrel;by_cases hlt:k<s.size
  .have hlt':(k:Int)<(s.size:Int):=by omega
   have hix:=nO s k hlt;obtain ⟨z0,z1⟩:=oT s k;have HZ:=zh (aF1 s k hlt)
   have HG:=zh (show 97<=byt s k/\byt s k<=122->∀ j,j<k+1->97<=byt s j/\byt s j<=122 from fun h j hj=>by
    by_cases e:j=k
    .subst e;exact h
    .exact HJ.out j (by omega))
   generalize byt s k=z at *;by_cases c1:z<97
   .have c1':(z<97)=True:=by simp [c1]
    go_wp2;go_ret;exact ⟨aA (HZ.o (by omega)).symm,rfl⟩
   .by_cases c2:122<z
    .go_wp2;go_ret;exact ⟨aA (HZ.o (by omega)).symm,rfl⟩
    .go_wp2
     go_round
     .exact ⟨k+1,by omega,by go_num,zh (HG.o (by omega))⟩
     .simp [intOf];omega
  .have e:Zh (k=s.size):=by show k=s.size;omega
   have HE:=zh (aCe s (fun j hj=>HJ.out j (by rw [e.o];exact hj)));by_cases c1:1<=s.size
   .by_cases c2:s.size<=12
    .go_wp2;go_ret;exact ⟨aA (by have:=e.o;rw [HE.o,xJ];simp;omega),rfl⟩
    .go_wp2;go_ret;exact ⟨aA (by have:=e.o;rw [HE.o,xJ];simp;omega),rfl⟩
   .go_wp2;go_ret;exact ⟨aA (by have:=e.o;rw [HE.o,xJ];simp;omega),rfl⟩
theorem jB (s:ByteArray)(w:qw)(hs:s.size<=1048576):
 qC 173 #[.string s] w fun e w'=>e=.returned (.bool (nmo s))/\w=w':=by
 by_cases c1:s.size<1
 .have HF:Zh (nmo s=false):=by show _=_;unfold nmo;rw [Bool.and_eq_false_iff];left;simp;omega
  have c1':(s.size:Int)<1:=by omega
  go_enter func173,ntmps173
  go_wp2;go_ret;exact ⟨aA HF.o.symm,rfl⟩
 .by_cases c2:12<s.size
  .have HF:Zh (nmo s=false):=by show _=_;unfold nmo;rw [Bool.and_eq_false_iff];left;simp;omega
   have c1':¬ (s.size:Int)<1:=by omega
   have c2':(12:Int)<(s.size:Int):=by omega
   go_enter func173,ntmps173
   go_wp2;go_ret;exact ⟨aA HF.o.symm,rfl⟩
  .have c1':¬ (s.size:Int)<1:=by omega
   have c2':¬ (12:Int)<(s.size:Int):=by omega
   go_enter func173,ntmps173
   go_wp2_with fail
   go_loop [14] (fun i=>∃ k:Nat,k<=s.size/\i=qI k/\Hid (∀ j,j<k->97<=byt s j/\byt s j<=122)) (fun i=>s.size-(intOf i).toNat)
   .exact ⟨0,xC _,rfl,zh (fun j hj=>by omega)⟩
   .obtain ⟨k,hk,rfl,HJ⟩:=hrel;by_cases hlt:k<s.size
    .have hlt':(k:Int)<(s.size:Int):=by omega
     have hix:=nO s k hlt;obtain ⟨z0,z1⟩:=oT s k;have HZ:=zh (aF1 s k hlt)
     have HG:=zh (show 97<=byt s k/\byt s k<=122->∀ j,j<k+1->97<=byt s j/\byt s j<=122 from fun h j hj=>by
      by_cases e:j=k
      .subst e;exact h
      .exact HJ.out j (by omega))
     generalize byt s k=z at *;by_cases d1:z<97
     .go_wp2;go_ret;exact ⟨aA (HZ.o (by omega)).symm,rfl⟩
     .by_cases d2:122<z
      .go_wp2;go_ret;exact ⟨aA (HZ.o (by omega)).symm,rfl⟩
      .go_wp2
       go_round
       .exact ⟨k+1,by omega,by go_num,zh (HG.o (by omega))⟩
       .simp [intOf];omega
    .have e:Zh (k=s.size):=by show k=s.size;omega
     have HE:=zh (aCe s (fun j hj=>HJ.out j (by rw [e.o];exact hj)));go_wp2;go_ret;exact ⟨aA (by have:=e.o;rw [HE.o,xJ];simp;omega),rfl⟩
def dE (s:ByteArray):Nat->Nat->Int
 | 0,_=>-1
 | f+1,k=>if byt s k=46 then (k:Int) else dE s f (k+1)
def dot (s:ByteArray):Int:=dE s s.size 0
theorem wR (s:ByteArray)(w:qw)(hs:s.size<=1048576):
 qC 114 #[.string s] w fun e w'=>e=.returned (qI (dot s))/\w=w':=by
 go_enter func114,ntmps114
 go_wp2_with fail
 go_loop [3] (fun i=>∃ k:Nat,k<=s.size/\i=qI k/\Hid (dot s=dE s (s.size-k) k)) (fun i=>s.size-(intOf i).toNat)
 .exact ⟨0,xC _,rfl,zh rfl⟩
 .obtain ⟨k,hk,rfl,HJ⟩:=hrel;by_cases hlt:k<s.size
  .have hlt':(k:Int)<(s.size:Int):=by omega
   have hix:=nO s k hlt;obtain ⟨z0,z1⟩:=oT s k
   have HD:=zh (show dot s=if byt s k=46 then (k:Int) else dE s (s.size-(k+1)) (k+1) from by
    rw [HJ.out,show s.size-k=(s.size-(k+1))+1 by omega];rfl)
   clear HJ;generalize byt s k=z at *;by_cases c1:z=46
   .have HE:=zh (show dot s=(k:Int) from by rw [HD.o,if_pos c1]);subst c1;go_wp2;go_ret;exact ⟨aH HE.o.symm,rfl⟩
   .have HE:=zh (show dot s=dE s (s.size-(k+1)) (k+1) from by rw [HD.o,if_neg c1]);have c1':(z==46)=false:=by simpa using c1
    go_wp2
    go_round
    .exact ⟨k+1,by omega,by go_num,HE⟩
    .simp [intOf];omega
  .have e:Zh (dot s=-1):=by
    show dot s=-1;rw [HJ.out,show s.size-k=0 by omega];rfl
   go_wp2;go_ret;exact ⟨aH e.o.symm,rfl⟩
theorem eQ (s:ByteArray):∀ (f k:Nat),dE s f k=-1\/((k:Int)<=dE s f k/\dE s f k<k+f)
 | 0,k=>Or.inl rfl
 | f+1,k=>by
   unfold dE;split
   .right;omega
   .rcases eQ s f (k+1) with h|h
    .left;exact h
    .right;omega
theorem lF (s:ByteArray):dot s=-1\/(0<=dot s/\dot s<s.size):=by
 have:=eQ s s.size 0;unfold dot;omega
def dG (s:ByteArray):ByteArray:=s.extract 0 (dot s).toNat
def eE (s:ByteArray):ByteArray:=s.extract (dot s+1).toNat s.size
theorem oQ (s:ByteArray)(hs:s.size<=1048576):(dG s).size<=1048576:=by
 unfold dG;rw [ByteArray.size_extract];omega
theorem oP (s:ByteArray)(hs:s.size<=1048576):(eE s).size<=1048576:=by
 unfold eE;rw [ByteArray.size_extract];omega
def fD (s:ByteArray):Bool:=decide (0<=dot s)&&(nmo (dG s)&&nmo (eE s))
theorem nA (s:ByteArray)(w:qw)(hs:s.size<=1048576):
 qC 113 #[.string s] w fun e w'=>e=.returned (.bool (fD s))/\w=w':=by
 have HD:=zh (fun w=>wR s w hs);have HA:=zh (fun w=>fV (dG s) w (oQ s hs));have HB:=zh (fun w=>fV (eE s) w (oP s hs));obtain ⟨r,hr⟩:=eqx (fD s);rw [<- hr];unfold fD at hr;unfold dG eE at *;rcases lF s with h|⟨h0,h1⟩
 .rw [h] at HD hr;have HR:=zh (show r=false from by rw [hr];rfl);clear HA HB hr h;go_enter func113,ntmps113
  go_wp2_with (go_at_call 114;refine (HD.o _).mono ?_;rintro e w1 ⟨rfl,rfl⟩)
  go_ret;exact ⟨aA HR.o.symm,rfl⟩
 .generalize dot s=p at *;generalize nmo (s.extract 0 p.toNat)=A at *;generalize nmo (s.extract (p+1).toNat s.size)=B at *;have HR:=zh (show r=(A&&B) from by rw [hr];simp [h0]);clear hr;cases A
  .go_enter func113,ntmps113
   go_wp2_with (first
    | (go_at_call 114;refine (HD.o _).mono ?_;rintro e w1 ⟨rfl,rfl⟩)
    | (go_at_call 170;refine (HA.o _).mono ?_;rintro e w1 ⟨rfl,rfl⟩))
   go_ret;exact ⟨aA HR.o.symm,rfl⟩
  .go_enter func113,ntmps113
   go_wp2_with fail
   refine (HD.o _).mono ?_;rintro e w1 ⟨rfl,rfl⟩;go_wp2_with fail
   refine (HA.o _).mono ?_;rintro e w1 ⟨rfl,rfl⟩;go_wp2_with fail
   refine (HB.o _).mono ?_;rintro e w1 ⟨rfl,rfl⟩;go_wp2;go_ret;exact ⟨aA HR.o.symm,rfl⟩
theorem aMw (l:List UInt8):∀ (s:ByteArray) (k:Nat),s.data.toList.drop k=l->Lib.indexByte l (46:Int).toNat.toUInt8=(let d:=dE s l.length k;if d=-1 then -1 else d-k):=by
 induction l with
 | nil=>intro s k h;rfl
 | cons b l ih=>
   intro s k h
   have hk:k<s.data.toList.length:=by
    by_cases e:k<s.data.toList.length
    .exact e
    .rw [List.drop_eq_nil_of_le (by omega)] at h;cases h
   have hks:k<s.size:=by simpa using hk
   have hb:s.data.toList[k]'hk=b:=by
    have h2:s.data.toList[k]?=some b:=by
     have:=congrArg (fun t=>t[0]?) h;simpa using this
    rw [xN hk] at h2;injection h2
   have hd:s.data.toList.drop (k+1)=l:=by
    have:=congrArg List.tail h;simpa using this
   have hbyt:byt s k=(b.toNat:Int):=by
    unfold byt;rw [aCy s k hks,<- hb];rfl
   have ih':=ih s (k+1) hd;simp only [Lib.indexByte,List.length_cons,dE,hbyt];rw [ih'];have e46:(46:Int).toNat.toUInt8=46:=rfl;rw [e46];by_cases c:b=46
   .subst c;simp
   .have c1:(b==46)=false:=by simpa using c
    have c2:¬ ((b.toNat:Int)=46):=fun e=>c (UInt8.toNat_inj.1 (by simpa using (by omega:b.toNat=46)));rw [c1,if_neg c2];rcases eQ s l.length (k+1) with e|e
    .simp [e]
    .have n1:¬ dE s l.length (k+1)=-1:=by omega
     simp only [n1,if_false,Bool.false_eq_true];split
     .next h=>simp at h;omega
     .omega
theorem aKj (s:ByteArray):Lib.indexByte s.data.toList (46:Int).toNat.toUInt8=dot s:=by
 have:=aMw s.data.toList s 0 (by simp);rw [this];have e:s.data.toList.length=s.size:=Array.length_toList;unfold dot;rw [e];rcases eQ s s.size 0 with h|h
 .simp [h]
 .simp only [if_neg (show ¬ dE s s.size 0=-1 by omega)];omega
theorem vL (s:ByteArray)(w:qw):
 qC 236 #[.string s,.int .u8 46] w fun e w'=>e=.returned (qI (dot s))/\w=w':=by
 have HD:=zh (aKj s);go_enter func236,ntmps236
 go_wp2;rw [run_callFunc_extern func254 (by kernel_rfl) (by kernel_rfl) (by kernel_rfl) (e:=Extern.BytealgIndexByte.indexByte) (by kernel_rfl),Lib.run_indexByteString];simp only [Result.andThen];rw [Oper.upon_value];go_wp2;go_ret;exact ⟨aH HD.o,rfl⟩
theorem aH0 (s:ByteArray)(w:qw)(hs:s.size<=1048576):
 qC 221 #[.string s,.string ⟨#[46]⟩] w fun e w'=>e=.returned (qI (dot s))/\w=w':=by
 have HI:=zh (fun w=>vL s w);by_cases he:(⟨#[46]⟩:ByteArray)=s
 .subst he;have HD:Zh (dot ⟨#[46]⟩=0):=by show _=_;rfl
  clear HI;go_enter func221,ntmps221
  go_wp2;go_ret;exact ⟨aH HD.o.symm,rfl⟩
 .have hne:¬ ([46]:List UInt8)=s.toList:=fun e=>he (Go.WideShapes.bytes_inj (by rw [ByteArray.toList_eq] at e;exact e));have he':(([46]:List UInt8)==s.toList)=false:=by simpa using hne
  have he2:((⟨#[46]⟩:ByteArray).toList==s.toList)=false:=by rw [ByteArray.toList_eq];exact he'
  have h46:∀ w:World,(Instr.index 9 (.string ⟨#[46]⟩) (qI 0)).run prog w=.ok (.int .u8 46) w:=fun w=>by kernel_rfl
  go_enter func221,ntmps221
  go_wp2_with (go_at_call 236;refine (HI.o _).mono ?_;rintro e w1 ⟨rfl,rfl⟩)
  go_ret;exact ⟨rfl,rfl⟩
theorem aG1 (s:ByteArray)(w:qw)(hs:s.size<=1048576):
 qC 201 #[.string s,.string ⟨#[46]⟩] w (qB w (.tuple #[.string (if 0<=dot s then dG s else s),.string (if 0<=dot s then eE s else ⟨#[]⟩),.bool (decide (0<=dot s))])):=by
 have HI:=zh (fun w=>aH0 s w hs);have HB:=zh (Below.refl w.heap.size w);rcases lF s with h|⟨h0,h1⟩
 .have hn:¬ (0<=dot s):=by omega
  rw [if_neg hn,if_neg hn,xS hn];rw [h] at HI;clear h hn;go_enter func201,ntmps201
  go_wp2_with (go_at_call 221;refine (HI.o _).mono ?_;rintro e w1 ⟨rfl,rfl⟩)
  all_goals (try go_region)
  all_goals (try go_wp2)
  all_goals go_ret3
  all_goals exact ⟨rfl,by first|exact HB.o|exact HB.o.drew⟩
 .rw [if_pos h0,if_pos h0,xR h0];unfold dG eE;generalize dot s=p at *;go_enter func201,ntmps201
  go_wp2_with (go_at_call 221;refine (HI.o _).mono ?_;rintro e w1 ⟨rfl,rfl⟩)
  all_goals (try go_region)
  all_goals (try go_wp2)
  all_goals go_ret3
  all_goals exact ⟨rfl,by first|exact HB.o|exact HB.o.drew⟩
theorem aM1 (s:ByteArray)(w:qw)(hs:s.size<=1048576):
 qC 172 #[.string s,.string ⟨#[46]⟩] w (qB w (.tuple #[.string (if 0<=dot s then dG s else s),.string (if 0<=dot s then eE s else ⟨#[]⟩),.bool (decide (0<=dot s))])):=by
 have HC:=zh (fun w=>aG1 s w hs);generalize (if 0<=dot s then dG s else s)=A at *;generalize (if 0<=dot s then eE s else ⟨#[]⟩)=B at *;generalize decide (0<=dot s)=C at *;go_enter func172,ntmps172
 go_wp2_with (go_at_call 201;refine (HC.o _).mono ?_;rintro e w1 ⟨rfl,hb1⟩)
 go_ret3
 exact ⟨rfl,hb1⟩
theorem aJr:nmo ⟨#[]⟩=false:=rfl
def aE1 (s:ByteArray):Value:=if fD s then .tuple #[.string (dG s),.string (eE s),.bool true] else .tuple #[.string ⟨#[]⟩,.string ⟨#[]⟩,.bool false]
theorem lU (s:ByteArray)(w:qw)(hs:s.size<=1048576):
 qC 120 #[.string s] w (qB w (aE1 s)):=by
 have HC:=zh (fun w=>aM1 s w hs);obtain ⟨V,hV⟩:=eqx (aE1 s);rw [<- hV];unfold aE1 fD at hV;have hA:(if 0<=dot s then dG s else s).size<=1048576:=by split;exact oQ s hs;exact hs
 have hB:(if 0<=dot s then eE s else ⟨#[]⟩).size<=1048576:=by split;exact oP s hs;exact (by decide)
 have HA:=zh (fun w=>jB _ w hA);have HB:=zh (fun w=>jB _ w hB)
 have hV':V=if nmo (if 0<=dot s then dG s else s)&&nmo (if 0<=dot s then eE s else ⟨#[]⟩) then .tuple #[.string (if 0<=dot s then dG s else s),.string (if 0<=dot s then eE s else ⟨#[]⟩),.bool true] else .tuple #[.string ⟨#[]⟩,.string ⟨#[]⟩,.bool false]:=by
  by_cases h:0<=dot s
  .simp only [h,if_true,decide_true,Bool.true_and] at hV ⊢;exact hV
  .simp only [h,if_false,decide_false,Bool.false_and,aJr,Bool.and_false] at hV ⊢;exact hV
 clear hV hA hB;generalize (if 0<=dot s then dG s else s)=A at *;generalize (if 0<=dot s then eE s else ⟨#[]⟩)=B at *;generalize decide (0<=dot s)=C at *;generalize nmo A=a at *;generalize nmo B=b at *;have HV:=zh hV';clear hV';cases a
 .obtain rfl:V=.tuple #[.string ⟨#[]⟩,.string ⟨#[]⟩,.bool false]:=HV.o;go_enter func120,ntmps120
  go_wp2_with fail
  refine (HC.o _).mono ?_;rintro e w1 ⟨rfl,hb1⟩;go_wp2_with fail
  refine (HA.o _).mono ?_;rintro e w2 ⟨rfl,rfl⟩;go_wp2
  go_ret3
  exact ⟨rfl,hb1⟩
 .cases b
  .obtain rfl:V=.tuple #[.string ⟨#[]⟩,.string ⟨#[]⟩,.bool false]:=HV.o;go_enter func120,ntmps120
   go_wp2_with fail
   refine (HC.o _).mono ?_;rintro e w1 ⟨rfl,hb1⟩;go_wp2_with fail
   refine (HA.o _).mono ?_;rintro e w2 ⟨rfl,rfl⟩;go_wp2_with fail
   refine (HB.o _).mono ?_;rintro e w2 ⟨rfl,rfl⟩;go_wp2
   go_ret3
   exact ⟨rfl,hb1⟩
  .obtain rfl:V=.tuple #[.string A,.string B,.bool true]:=HV.o;go_enter func120,ntmps120
   go_wp2_with fail
   refine (HC.o _).mono ?_;rintro e w1 ⟨rfl,hb1⟩;go_wp2_with fail
   refine (HA.o _).mono ?_;rintro e w2 ⟨rfl,rfl⟩;go_wp2_with fail
   refine (HB.o _).mono ?_;rintro e w2 ⟨rfl,rfl⟩;go_wp2
   go_ret3
   exact ⟨rfl,hb1⟩
theorem aGr (n:Int)(h₀:0<=n)(h₁:n<2^62):IntKind.i64.wrap n=n:=by
 have:(2:Int)^62=4611686018427387904:=rfl;simp only [IntKind.wrap,IntKind.bits,IntKind.signed];simp;omega
theorem qG (i:Nat)(x y:Int)(hx₀:0<=x:=by omega)(hx:x%2^i=0:=by omega)(hx₁:x<2^62:=by omega)(hy₀:0<=y:=by omega)(hy:y<2^i:=by omega)(hy₁:y<2^62:=by omega):bits .or .i64 x y=x+y:=
 bits_join .i64 62 (by decide) aGr i x y hx₀ hx hx₁ hy₀ hy hy₁
theorem BS.at {w:qw}{b off n cap:Nat}{zs:qi}(h:BS w (some (qR b off)) n cap zs)(i:Nat)(hi:i<n):w.cell? (qR b (off+i))=some (.int .u8 (zs.getD i 0)):=by
 obtain ⟨b',off',e,hd⟩:=h.2.2.2.1 (by omega);simp at e;obtain ⟨rfl,rfl⟩:=e;exact hd i hi
theorem or4 (z0 z1 z2 z3:Int)(p0:0<=z0)(p0':z0<=255)(p1:0<=z1)(p1':z1<=255)(p2:0<=z2)(p2':z2<=255)(p3:0<=z3)(p3':z3<=255):
 bits BinOp.or IntKind.i64 (bits BinOp.or IntKind.i64 (bits BinOp.or IntKind.i64 0 (bits BinOp.or IntKind.i64 (z3*16777216) (z2*65536))) (z1*256)) z0=low [z0,z1,z2,z3]:=by
 rw [qG 24 (z3*16777216) (z2*65536)];rw [qG 40 0 (z3*16777216+z2*65536)];rw [qG 16 (0+(z3*16777216+z2*65536)) (z1*256)];rw [qG 8 (0+(z3*16777216+z2*65536)+z1*256) z0];simp only [low];omega
theorem aPb (zs:qi)(h:4<=zs.length):zs.take 4=[zs.getD 0 0,zs.getD 1 0,zs.getD 2 0,zs.getD 3 0]:=by
 match zs,h with
 | a::b::c::d::_,_=>rfl
theorem aEy (b off n cap:Nat)(zs:qi)(w:qw)(h:BS w (some (qR b off)) n cap zs)(hn:4<=n):
 qC 234 #[qS (some (qR b off)) n cap,qI 4] w (qB w (qI (low (zs.take 4)))):=by
 have r0:=h.range 0;have r1:=h.range 1;have r2:=h.range 2;have r3:=h.range 3;have c0:=h.at 0 (by omega);have c1:=h.at 1 (by omega);have c2:=h.at 2 (by omega);have c3:=h.at 3 (by omega);simp only [Nat.add_zero] at c0;have hl:(3:Int)<(n:Int):=by omega
 rw [aPb zs (by rw [h.1];omega)];clear h;generalize zs.getD 0 0=z0 at *;generalize zs.getD 1 0=z1 at *;generalize zs.getD 2 0=z2 at *;generalize zs.getD 3 0=z3 at *;obtain ⟨p0,p0'⟩:=r0;obtain ⟨p1,p1'⟩:=r1;obtain ⟨p2,p2'⟩:=r2;obtain ⟨p3,p3'⟩:=r3;have HS:=zh (or4 z0 z1 z2 z3 p0 p0' p1 p1' p2 p2' p3 p3');generalize low [z0,z1,z2,z3]=L at *;go_enter func234,ntmps234
 go_wp2
 go_quiet (fail)
 go_wp2;go_ret;exact ⟨aH HS.o,below_drewN brf _⟩
theorem BS.drop {w:qw}{zs:qi}(h:BS w (some (qR b off)) n cap zs)(k:Nat)(hk:k<=n):BS w (some (qR b (off+k))) (n-k) (cap-k) (zs.drop k):=by
 have hl:=h.1;refine ⟨by simp;omega,by have:=h.2.1;omega,fun z hz=>h.2.2.1 z (List.mem_of_mem_drop hz),fun hn=>⟨b,off+k,rfl,fun i hi=>?_⟩,by have:=h.2.2.2.2;omega⟩;have:=h.at (k+i) (by omega);rw [Nat.add_assoc,this];simp [xB]
theorem BS.take {w:qw}{zs:qi}(h:BS w (some (qR b off)) n cap zs)(s:Nat)(hs:s<=n):BS w (some (qR b off)) s cap (zs.take s):=by
 have hl:=h.1;refine ⟨by simp;omega,by have:=h.2.1;omega,fun z hz=>h.2.2.1 z (List.mem_of_mem_take hz),fun hn=>⟨b,off,rfl,fun i hi=>?_⟩,by have:=h.2.2.2.2;omega⟩;have:=h.at i (by omega);rw [this];simp [xB,hi]
theorem wd4:wd 4=true:=by decide
theorem aOs {n1 n2 n3:Nat}(h:mok n1 n2 n3=true):n1<=16384/\n2<=16384/\n3<=5000:=by simpa [mok] using h
theorem aBg (a1 a2 a3:qO)(n1 c1 n2 c2 n3 c3:Nat)(p:Int)(w:qw)(h:mok n1 n2 n3=true)(hm:(p.tmod 4 !=0)=false):
 qC 259 #[.agg (qV a1 n1 c1 a2 n2 c2 a3 n3 c3),qI p,qI 4] w (qB w (qI 0)):=by
 have hB0:qY w (w.alloc (.cells (qV a1 n1 c1 a2 n2 c2 a3 n3 c3) 39)):=bal;go_enter func259,ntmps259
 go_wp2_with fail
 refine (tI a1 a2 a3 n1 c1 n2 c2 n3 c3 _).mono ?_;rw [h];rintro e w1 ⟨rfl,hb1⟩;have k1:=(Blk.new w (qV a1 n1 c1 a2 n2 c2 a3 n3 c3) 39).bw hb1;have hB1:=hB0.trans (hb1.mono (by simp));obtain ⟨q1,q2,q3,q4⟩:=k1.three;clear hb1 k1;go_wp2_with fail
 refine (gS 4 _).mono ?_;rw [wd4];rintro e w2 ⟨rfl,rfl⟩;go_wp2;go_ret;exact ⟨rfl,hB1⟩
theorem BS.some {w:qw}{zs:qi}(h:BS w a n cap zs)(hn:n≠0):∃ b off,a=Option.some (qR b off):=by
 obtain ⟨b,off,e,_⟩:=h.2.2.2.1 hn;exact ⟨b,off,e⟩
def OB (w:qw)(base:Nat)(v:Value)(zs:qi):Prop:=w.ownsRow base 5 1 v zs.length (zs.map (Value.int .u8))/\∀ z∈zs,0<=z/\z<=255
theorem aA9 {w:qw}{zs:qi}(h:BS w (some (qR b off)) n cap zs):∀ j u,(zs.map (Value.int .u8))[j]?=some u->w.cell? (((qR b off):Addr).add j)=some u:=by
 intro j u hj;have hl:=h.1
 have hjl:j<n:=by
  by_cases e:j<n
  .exact e
  .rw [xO (by simp;omega)] at hj;simp at hj
 rw [bN,h.at j hjl];rw [<- hj];simp [xB,show j<zs.length by omega]
theorem wK (w:qw):(w.alloc (.cells #[] 5)).ownsRow w.heap.size 5 1 (qS (qP w.heap.size) 0 0) 0 []:=
 ⟨rfl,.inr ⟨w.heap.size,0,#[],rfl,aN,heap_alloc_new w _,aN,xC _,rfl,rfl⟩⟩
theorem wJ {w:qw}{t:TypeId}{xs:List Value}(h:w.ownsRow base t 1 v n xs):∃ a cap,v=qS a n cap:=by
 obtain ⟨_,⟨rfl,rfl⟩|⟨g,cap,cur,rfl,_⟩⟩:=h
 .exact ⟨_,_,rfl⟩
 .exact ⟨_,_,rfl⟩
theorem nJ {B:Nat}{a w w':qw}{k:Nat}(h:Below B a w)(hg:w.grownBy w' (some k))(hB:B<=w.heap.size)(hk:B<=k):Below B a w':=h.grown hg hB (fun j hj=>by cases hj;exact hk)
theorem kJ (b off n cap:Nat)(zs:qi)(w:qw)(h:BS w (some (qR b off)) n cap zs)(hn:n<=1048576):
 qC 149 #[qS (some (qR b off)) n cap] w fun e w'=>∃ a cap',e=.returned (qS a n cap')/\OB w' w.heap.size (qS a n cap') zs/\qY w w':=by
 obtain ⟨i0,hi,hz0,hz1,hz2⟩:=info_parts wU;have hl:=h.1;have h':=h.bw ((Below.refl w.heap.size w).alloc aN (.cells #[] 5));have hnews:=zh (aA9 h');have hone:=zh (ints_oneCell .u8 zs);have hown:=zh (wK w);have hlen:=zh (show (zs.map (Value.int .u8)).length=n*1 by simp;omega);go_enter func149,ntmps149
 go_wp2_with (at_builtin;refine wpList_append_own _ rfl _ _ 28 rfl w.heap.size 5 i0 (.int .u8 0) 1 1 underlying28 hi hz0 hz1 hz2 rfl (by decide) _ 0 [] rfl hown.o (qR b off) n cap (zs.map (Value.int .u8)) rfl hlen.o hnews.o hone.o (by unfold maxLen;omega) (by omega) (by simp) ?_;intro v' w1 hown1 hgr1 _)
 simp only [Nat.zero_add,List.nil_append] at hown1;have hex:=wJ hown1;go_ret;obtain ⟨a',cap',he⟩:=hex;refine ⟨a',cap',by rw [<- he];rfl,⟨?_,h.2.2.1⟩,?_⟩
 .rw [hl,<- he];exact hown1
 .exact nJ ((Below.refl w.heap.size w).alloc aN _) hgr1 (by simp) aN
theorem oR (b off n cap:Nat)(zs:qi)(w:qw)(h:BS w (some (qR b off)) n cap zs)(hn:n<=1048576):
 qC 164 #[qS (some (qR b off)) n cap] w fun e w'=>∃ a cap',e=.returned (qS a n cap')/\OB w' w.heap.size (qS a n cap') zs/\qY w w':=by
 obtain ⟨i0,hi,hz0,hz1,hz2⟩:=info_parts wU;have hl:=h.1;have h':=h.bw ((Below.refl w.heap.size w).alloc aN (.cells #[] 5));have hnews:=zh (aA9 h');have hone:=zh (ints_oneCell .u8 zs);have hown:=zh (wK w);have hlen:=zh (show (zs.map (Value.int .u8)).length=n*1 by simp;omega);have hnil:=fun (w:qw)=>Lib.run_eql_slice_nil (P:=prog) w 28 5 (some (qR b off)) n cap 0 0 underlying28;go_enter func164,ntmps164
 go_wp2_with (at_builtin;refine wpList_append_own _ rfl _ _ 28 rfl w.heap.size 5 i0 (.int .u8 0) 1 1 underlying28 hi hz0 hz1 hz2 rfl (by decide) _ 0 [] rfl hown.o (qR b off) n cap (zs.map (Value.int .u8)) rfl hlen.o hnews.o hone.o (by unfold maxLen;omega) (by omega) (by simp) ?_;intro v' w1 hown1 hgr1 _)
 simp only [Nat.zero_add,List.nil_append] at hown1;have hex:=wJ hown1;go_ret;obtain ⟨a',cap',he⟩:=hex;refine ⟨a',cap',by rw [<- he];rfl,⟨?_,h.2.2.1⟩,?_⟩
 .rw [hl,<- he];exact hown1
 .exact nJ ((Below.refl w.heap.size w).alloc aN _) hgr1 (by simp) aN
theorem IS.at {w:qw}{b off n cap:Nat}{zs:qi}(h:IS w (Option.some (qR b off)) n cap zs)(i:Nat)(hi:i<n):w.cell? (qR b (off+i))=Option.some (qI (zs.getD i 0)):=by
 obtain ⟨b',off',e,hd⟩:=h.2.2.2.1 (by omega);simp at e;obtain ⟨rfl,rfl⟩:=e;exact hd i hi
theorem IS.addr {w:qw}{zs:qi}(h:IS w a n cap zs)(hn:n≠0):∃ b off,a=some (qR b off):=by
 obtain ⟨b,off,e,_⟩:=h.2.2.2.1 hn;exact ⟨b,off,e⟩
def OI (w:qw)(base:Nat)(v:Value)(zs:qi):Prop:=w.ownsRow base 3 1 v zs.length (zs.map (Value.int .i64))/\∀ z∈zs,wfi z
theorem aAs {w:qw}{zs:qi}(h:IS w (some (qR b off)) n cap zs):∀ j u,(zs.map (Value.int .i64))[j]?=some u->w.cell? (((qR b off):Addr).add j)=some u:=by
 intro j u hj;have hl:=h.1
 have hjl:j<n:=by
  by_cases e:j<n
  .exact e
  .rw [xO (by simp;omega)] at hj;simp at hj
 rw [bN,h.at j hjl];rw [<- hj];simp [xB,show j<zs.length by omega]
theorem aDx (w:qw):(w.alloc (.cells #[] 3)).ownsRow w.heap.size 3 1 (qS (qP w.heap.size) 0 0) 0 []:=
 ⟨rfl,.inr ⟨w.heap.size,0,#[],rfl,aN,heap_alloc_new w _,aN,xC _,rfl,rfl⟩⟩
theorem OI.bw {w w':qw}{zs:qi}(h:OI w base v zs)(hb:qY w w'):OI w' base v zs:=by
 refine ⟨?_,h.2⟩;obtain ⟨hl,h0|⟨g,cap,cur,hv,hg,hh,h1,h2,h3,h4⟩⟩:=h.1
 .exact ⟨hl,.inl h0⟩
 .refine ⟨hl,.inr ⟨g,cap,cur,hv,hg,?_,h1,h2,h3,h4⟩⟩;exact Blk.bw (w:=w) hh hb
theorem OI.mono {w:qw}{base':Nat}{zs:qi}(h:OI w base v zs)(hb:base'<=base):OI w base' v zs:=by
 refine ⟨?_,h.2⟩;obtain ⟨hl,h0|⟨g,cap,cur,hv,hg,hh,h1,h2,h3,h4⟩⟩:=h.1
 .exact ⟨hl,.inl h0⟩
 .exact ⟨hl,.inr ⟨g,cap,cur,hv,by omega,hh,h1,h2,h3,h4⟩⟩
theorem OI.other {w:qw}{zs:qi}(h:OI w base v zs)(a:Addr)(u:Value)(ha:a.block<base):OI (w.setCell a u) base v zs:=by
 refine ⟨?_,h.2⟩;obtain ⟨hl,h0|⟨g,cap,cur,hv,hg,hh,h1,h2,h3,h4⟩⟩:=h.1
 .exact ⟨hl,.inl h0⟩
 .exact ⟨hl,.inr ⟨g,cap,cur,hv,hg,Blk.other (w:=w) hh a u (by omega),h1,h2,h3,h4⟩⟩
theorem OI.lt {w:qw}{zs:qi}(h:OI w base v zs):∀ k,v.ownBlock=some k->base<=k/\k<w.heap.size:=h.1.lt
theorem OI.is {w:qw}{zs:qi}(h:OI w base (qS a n cap) zs):IS w a n cap zs:=by
 obtain ⟨hl,⟨h0,h0'⟩|⟨g,cap',cur,hv,hg,hh,h1,h2,h3,h4⟩⟩:=h.1
 .simp at h0;obtain ⟨rfl,rfl,rfl⟩:=h0;exact ⟨h0',xC _,h.2,fun hn=>absurd rfl hn,aN⟩
 .simp at hv;obtain ⟨rfl,rfl,rfl⟩:=hv;refine ⟨rfl,by omega,h.2,fun hn=>⟨g,0,rfl,fun i hi=>?_⟩,h1⟩;rw [Nat.zero_add,Blk.cell (w:=w) hh]
  have:cur.toList[i]?=(zs.map (Value.int .i64))[i]?:=by
   rw [<- h4,List.getElem?_take,if_pos (by omega)]
  rw [Array.getElem?_toList] at this;rw [this];simp [xB,hi]
def RoomI (w:qw)(g n:Nat):Prop:=∃ cur,Blk w g cur 3/\n<=cur.size
theorem RoomI.cell {w:qw}(h:RoomI w g n)(i:Nat)(hi:i<n):∃ u,w.cell? (qR g i)=some u:=by
 obtain ⟨cur,hb,hn⟩:=h;rw [hb.cell];exact ⟨cur[i],by simp⟩
theorem RoomI.frozen {w:qw}(h:RoomI w g n)(i:Nat):w.frozen? (qR g i)=false:=by
 obtain ⟨cur,hb,hn⟩:=h;exact hb.frozen i
theorem aJn {w:qw}{zs:qi}(h:OI w base (qS (qP g) n cap) zs)(i:Nat)(hi:i<n)(z:Int)(hz:wfi z):OI (w.setCell (qR g i) (qI z)) base (qS (qP g) n cap) (zs.set i z):=by
 obtain ⟨⟨hl,h0|⟨g',cap',cur,hv,hg,hh,h1,h2,h3,h4⟩⟩,hr⟩:=h
 .simp at h0
 .simp at hv;obtain ⟨rfl,rfl,rfl⟩:=hv;refine ⟨⟨by simp,.inr ⟨g,cap,cur.setIfInBounds i (qI z),by simp,hg,Blk.set (w:=w) hh i _,by simpa using h1,h2,by simpa using h3,?_⟩⟩,?_⟩
  .rw [List.length_set,xW,List.take_set,h4,List.map_set]
  .intro y hy;rcases List.mem_or_eq_of_mem_set hy with hy|rfl
   .exact hr y hy
   .exact hz
theorem aF0 {w:qw}{zs:qi}(h:OI w base (qS (qP g) n cap) zs):RoomI w g n:=by
 obtain ⟨⟨hl,h0|⟨g',cap',cur,hv,hg,hh,h1,h2,h3,h4⟩⟩,hr⟩:=h
 .simp at h0
 .simp at hv;obtain ⟨rfl,rfl,rfl⟩:=hv;exact ⟨cur,hh,by omega⟩
theorem aW {w w':qw}{zs:qi}(ht:Turn S w w')(h:OI w base v zs)(hk:∀ k,v.ownBlock=some k->¬ S k):OI w' base v zs:=by
 refine ⟨?_,h.2⟩;obtain ⟨hl,h0|⟨g',cap,cur,rfl,hg,hh,h1,h2,h3,h4⟩⟩:=h.1
 .exact ⟨hl,.inl h0⟩
 .exact ⟨hl,.inr ⟨g',cap,cur,rfl,hg,aF ht hh (hk g' rfl),h1,h2,h3,h4⟩⟩
def bE (k n:Nat):List Int:=(List.range n).map fun i=>((k+i:Nat):Int)
def gF (zs:qi)(k m:Nat):List Int:=(List.range zs.length).map fun i=>if i<m then ((k+i:Nat):Int) else zs.getD i 0
theorem aCh (zs:qi)(k:Nat):gF zs k 0=zs:=by
 apply List.ext_getElem
 .simp [gF]
 .intro i h1 h2;simp [gF,h2]
theorem aEa (zs:qi)(k:Nat):gF zs k zs.length=bE k zs.length:=by
 apply List.ext_getElem
 .simp [gF,bE]
 .intro i h1 h2;simp [bE] at h2;simp [gF,bE,h2]
theorem aD9 (zs:qi)(k m:Nat)(h:m<zs.length):(gF zs k m).set m (((k+m:Nat):Int))=gF zs k (m+1):=by
 apply List.ext_getElem
 .simp [gF]
 .intro i h1 h2;simp only [gF,List.getElem_set,List.getElem_map,List.getElem_range];by_cases hik:m=i
  .subst hik;simp
  .by_cases h3:i<m
   .simp [hik,h3,show i<m+1 by omega]
   .simp [hik,h3,show ¬ i<m+1 by omega]
theorem vE (g n cap base:Nat)(zs:qi)(k:Nat)(w:qw)(h:OI w base (qS (qP g) n cap) zs)(hn:n<=5000000)(hk:k<=20000000):
 qC 18 #[qS (qP g) n cap,qI k] w fun e w'=>e=.returned (qI ((k+n:Nat):Int))/\OI w' base (qS (qP g) n cap) (bE k n)/\Turn (fun j=>j=g) w w':=by
 have hl:=h.is.1;go_enter func18,ntmps18
 go_wp2;go_loopw [1,5] (fun x i wr=>∃ m:Nat,m<=n/\i=qI m/\x=qI ((k+m:Nat):Int)/\OI wr base (qS (qP g) n cap) (gF zs k m)/\Turn (fun j=>j=g) w wr) (fun _ i _=>n-(intOf i).toNat)
 .exact ⟨0,xC _,rfl,rfl,by rw [aCh];exact h,Turn.refl _ _⟩
 .obtain ⟨m,hm,rfl,rfl,hO,hT⟩:=hrel;by_cases hlt:m<n
  .have hlt':(m:Int)<(n:Int):=by omega
   obtain ⟨u,hu⟩:=(aF0 hO).cell m hlt;have hf:=(aF0 hO).frozen m;have hset:=aJn hO m hlt (((k+m:Nat):Int)) (by unfold wfi;omega);rw [aD9 zs k m (by omega)] at hset
   have hT2:Turn (fun j=>j=g) w (wr.setCell (qR g m) (qI (((k+m:Nat):Int)))):=
    hT.trans ⟨rfl,rfl,rfl,by rw [aL];exact aN,fun j hj hs=>heap_setCell_other _ _ _ _ hs⟩
   have HO:=zh hset;have HT:=zh hT2;clear hset hT2 hO hT;obtain ⟨K,hK⟩:∃ K:Int,K=((k+m:Nat):Int):=⟨_,rfl⟩;have hK0:0<=K:=by omega
   have hK1:K<=67108864:=by omega
   have HK:=zh (show K+1=((k+(m+1):Nat):Int) by omega);rw [<- hK] at HO HT ⊢;clear hK;go_wp2
   go_roundw
   .exact ⟨m+1,by omega,by go_num,by rw [HK.o],HO.o,HT.o⟩
   .simp [intOf];omega
  .have e:Zh (m=n):=by show m=n;omega
   go_wp2;go_ret;exact ⟨aH (by rw [e.o]),by rw [e.o,<- hl,aEa] at hO;rw [hl] at hO;exact hO,hT⟩
theorem vD (a:qO)(cap k:Nat)(w:qw):
 qC 18 #[qS a 0 cap,qI k] w fun e w'=>e=.returned (qI k)/\w=w':=by
 go_enter func18,ntmps18
 go_wp2;go_loop [1,5] (fun x i=>i=qI 0/\x=qI k) (fun _ _=>0)
 .exact ⟨rfl,rfl⟩
 .obtain ⟨rfl,rfl⟩:=hrel;go_wp2;go_ret;exact ⟨rfl,rfl⟩
theorem fT (a:qO)(n cap base:Nat)(zs:qi)(k:Nat)(w:qw)(h:OI w base (qS a n cap) zs)(hn:n<=5000000:=by omega)(hk:k<=20000000:=by omega):
 qC 18 #[qS a n cap,qI k] w fun e w'=>e=.returned (qI ((k+n:Nat):Int))/\OI w' base (qS a n cap) (bE k n)/\Turn (fun j=>(qS a n cap).ownBlock=some j) w w':=by
 by_cases h0:n=0
 .subst h0;refine (vD a cap k w).mono fun e w' he=>?_;obtain ⟨rfl,rfl⟩:=he;have hz:zs=[]:=xE h.is.1;subst hz;exact ⟨rfl,h,Turn.refl _ _⟩
 .obtain ⟨g,rfl⟩:∃ g,a=some ⟨g,0,none⟩:=by
   obtain ⟨hl,⟨h0',_⟩|⟨g,cap',cur,hv,_⟩⟩:=h.1
   .simp at h0';exact absurd h0'.2.1 h0
   .simp at hv;exact ⟨g,hv.1⟩
  refine (vE g n cap base zs k w h hn hk).mono fun e w' he=>⟨he.1,he.2.1,he.2.2.mono ?_⟩;intro j hj;subst hj;rfl
theorem aCl (k n m:Nat)(h:m<n):(bE k n).getD m 0=((k+m:Nat):Int):=by simp [bE,xB,h]
theorem fW (a:qO)(n cap:Nat)(k:Nat)(w:qw)(h:IS w a n cap (bE k n))(hn:n<=5000000:=by omega)(hk:k<=20000000:=by omega):
 qC 108 #[qS a n cap,qI k] w fun e w'=>e=.returned (qI ((k+n:Nat):Int))/\w=w':=by
 go_enter func108,ntmps108
 go_wp2;go_loop [1,5] (fun x i=>∃ m:Nat,m<=n/\i=qI m/\x=qI ((k+m:Nat):Int)) (fun _ i=>n-(intOf i).toNat)
 .exact ⟨0,xC _,rfl,rfl⟩
 .obtain ⟨m,hm,rfl,rfl⟩:=hrel;by_cases hlt:m<n
  .have hlt':(m:Int)<(n:Int):=by omega
   obtain ⟨b,off,rfl⟩:=h.addr (by omega);have hc:=h.at m hlt;rw [aCl k n m hlt] at hc;obtain ⟨K,hK⟩:∃ K:Int,K=((k+m:Nat):Int):=⟨_,rfl⟩;have hK0:0<=K:=by omega
   have hK1:K<=67108864:=by omega
   have HK:=zh (show K+1=((k+(m+1):Nat):Int) by omega);rw [<- hK] at hc ⊢;have hne:(K !=K)=false:=by simp
   clear hK;go_wp2
   go_round
   .exact ⟨m+1,by omega,by go_num,by rw [HK.o]⟩
   .simp [intOf];omega
  .have e:Zh (m=n):=by show m=n;omega
   go_wp2;go_ret;exact ⟨aH (by rw [e.o]),rfl⟩
theorem bY (n:Int)(h₀:0<=n)(h₁:n<2^62):IntKind.i64.wrap n=n:=by
 rw [IntKind.wrap_i64];omega
theorem cB (v:Int)(w:qw):
 qC 190 #[qI v] w fun e w'=>e=.returned (.bool (decide (0<=v/\v<=4294967295)))/\w=w':=by
 go_enter func190,ntmps190
 go_wp2
 all_goals
  go_ret;refine ⟨aA ?_,rfl⟩;rw [xJ];simp;try omega
theorem cX (v m:Int)(w:qw):
 qC 155 #[qI v,qI m] w fun e w'=>e=.returned (.bool (decide (0<=v/\v<=m)))/\w=w':=by
 go_enter func155,ntmps155
 go_wp2
 all_goals
  go_ret;refine ⟨aA ?_,rfl⟩;rw [xJ];simp;try omega
def wds (zs:qi):Bool:=zs.all fun z=>decide (0<=z/\z<=4294967295)
theorem aFi (zs:qi)(k:Nat)(hk:k<zs.length)(h:¬ (0<=zs.getD k 0/\zs.getD k 0<=4294967295)):wds zs=false:=by
 unfold wds;rw [List.all_eq_false];refine ⟨zs[k],List.getElem_mem _,?_⟩;have:zs.getD k 0=zs[k]:=by simp [xB,hk]
 rw [this] at h;simpa using h
theorem aBj (zs:qi)(h:∀ j,j<zs.length->0<=zs.getD j 0/\zs.getD j 0<=4294967295):wds zs=true:=by
 unfold wds;rw [List.all_eq_true];intro z hz;obtain ⟨i,hi,rfl⟩:=List.getElem_of_mem hz;have:=h i hi;rw [show zs.getD i 0=zs[i] by simp [xB,hi]] at this;simpa using this
theorem pC (a:qO)(n cap:Nat)(zs:qi)(w:qw)(h:IS w a n cap zs):
 qC 224 #[qS a n cap] w fun e w'=>e=.returned (.bool (wds zs))/\w=w':=by
 have hl:=h.1;have hmx:=h.2.1;unfold maxLen at hmx;go_enter func224,ntmps224
 go_wp2_with fail
 go_loop [3] (fun i=>∃ k:Nat,k<=n/\i=qI k/\Hid (∀ j,j<k->0<=zs.getD j 0/\zs.getD j 0<=4294967295)) (fun i=>n-(intOf i).toNat)
 .exact ⟨0,xC _,rfl,zh (fun j hj=>by omega)⟩
 .obtain ⟨k,hk,rfl,HJ⟩:=hrel;by_cases hlt:k<n
  .have hlt':(k:Int)<(n:Int):=by omega
   obtain ⟨b,off,rfl⟩:=h.addr (by omega);have hck:=h.at k hlt;have HZ:=zh (aFi zs k (by omega))
   have HG:=zh (show 0<=zs.getD k 0/\zs.getD k 0<=4294967295->∀ j,j<k+1->0<=zs.getD j 0/\zs.getD j 0<=4294967295 from fun h j hj=>by
    by_cases e:j=k
    .subst e;exact h
    .exact HJ.out j (by omega))
   generalize zs.getD k 0=z at *;by_cases c1:z<0
   .go_wp2;go_ret;exact ⟨aA (HZ.o (by omega)).symm,rfl⟩
   .by_cases c2:4294967295<z
    .go_wp2;go_ret;exact ⟨aA (HZ.o (by omega)).symm,rfl⟩
    .go_wp2
     go_round
     .exact ⟨k+1,by omega,by go_num,zh (HG.o (by omega))⟩
     .simp [intOf];omega
  .have HE:=zh (aBj zs (fun j hj=>HJ.out j (by omega)));go_wp2;go_ret;exact ⟨aA HE.o.symm,rfl⟩
theorem nK (a:qO)(n cap:Nat)(zs:qi)(w:qw)(h:IS w a n cap zs):
 qC 246 #[qS a n cap] w fun e w'=>e=.returned (.bool (wds zs))/\w=w':=by
 have hl:=h.1;have hmx:=h.2.1;unfold maxLen at hmx;have HIW:=zh (fun v w=>cB v w);go_enter func246,ntmps246
 go_wp2_with fail
 go_loop [7] (fun i=>∃ k:Nat,k<=n/\i=qI k/\Hid (∀ j,j<k->0<=zs.getD j 0/\zs.getD j 0<=4294967295)) (fun i=>n-(intOf i).toNat)
 .exact ⟨0,xC _,rfl,zh (fun j hj=>by omega)⟩
 .obtain ⟨k,hk,rfl,HJ⟩:=hrel;by_cases hlt:k<n
  .have hlt':(k:Int)<(n:Int):=by omega
   obtain ⟨b,off,rfl⟩:=h.addr (by omega);have hck:=h.at k hlt;have HZ:=zh (aFi zs k (by omega))
   have HG:=zh (show 0<=zs.getD k 0/\zs.getD k 0<=4294967295->∀ j,j<k+1->0<=zs.getD j 0/\zs.getD j 0<=4294967295 from fun h j hj=>by
    by_cases e:j=k
    .subst e;exact h
    .exact HJ.out j (by omega))
   generalize zs.getD k 0=z at *;have HW:=zh (HIW.o z);by_cases c1:0<=z/\z<=4294967295
   .rw [xR c1] at HW;go_wp2_with (go_at_call 190;refine (HW.o _).mono ?_;rintro e w1 ⟨rfl,rfl⟩)
    go_round
    .exact ⟨k+1,by omega,by go_num,zh (HG.o c1)⟩
    .simp [intOf];omega
   .rw [xS c1] at HW;go_wp2_with (go_at_call 190;refine (HW.o _).mono ?_;rintro e w1 ⟨rfl,rfl⟩)
    go_ret;exact ⟨aA (HZ.o c1).symm,rfl⟩
  .have HE:=zh (aBj zs (fun j hj=>HJ.out j (by omega)));go_wp2;go_ret;exact ⟨aA HE.o.symm,rfl⟩
