import Derived.Deep.AppendLies
import Derived.Deep.RegionLaw
import Derived.Laws.EntriesVeiled
import Derived.Maps.OwnSet
import Derived.Test.YtncccmeomcaabaaGreatR02
set_option linter.all false
set_option maxHeartbeats 1000000
namespace Go.Proofs.YtncccmeomcaabaaGreat
open Go.RowKit
open Go.Proofs.Tryz
set_option maxRecDepth 100000
variable {S:Nat->Prop}{base cap g n o:Nat}{rs:List Rg}{v:Value}
theorem aO8 (a1 a2 a3:qO)(n1 c1 n2 c2 n3 c3:Nat)(p:Int)(w:qw)(h:mok n1 n2 n3=true)(hmax:p<=9223372036854775807)(hm:(p.tmod 4 !=0)=false)(hp:(p==131072)=false)(hi:ins p 4 0 n1=true):
 qC 243 #[.agg (qV a1 n1 c1 a2 n2 c2 a3 n3 c3),qI p,qI 4] w (qB w (qI 3)):=by
 have hB0:qY w (w.alloc (.cells (qV a1 n1 c1 a2 n2 c2 a3 n3 c3) 39)):=bal;go_enter func243,ntmps243
 obtain ⟨l1,l2,l3⟩:=aOs h;go_wp2_with fail
 refine (aBg a1 a2 a3 n1 c1 n2 c2 n3 c3 p _ h hm).mono ?_;rintro e w1 ⟨rfl,hb1⟩;have k1:=(Blk.new w (qV a1 n1 c1 a2 n2 c2 a3 n3 c3) 39).bw hb1;have hB1:=hB0.trans (hb1.mono (by simp));obtain ⟨q1,q2,q3,q4⟩:=k1.three;clear hb1 k1;go_wp2_with fail
 refine (iE a1 n1 c1 _ 4 0 _).mono ?_;rw [hi];rintro e wx ⟨rfl,rfl⟩;go_wp2;go_ret;exact ⟨rfl,hB1⟩
theorem aPz (a1 a2 a3:qO)(n1 c1 n2 c2 n3 c3:Nat)(p:Int)(w:qw)(h:mok n1 n2 n3=true)(hmax:p<=9223372036854775807)(hm:(p.tmod 4 !=0)=false)(hp:(p==131072)=false)(hi:ins p 4 0 n1=false)(hj:ins p 4 65536 n2=false):
 qC 243 #[.agg (qV a1 n1 c1 a2 n2 c2 a3 n3 c3),qI p,qI 4] w (qB w (qI 2)):=by
 have hB0:qY w (w.alloc (.cells (qV a1 n1 c1 a2 n2 c2 a3 n3 c3) 39)):=bal;go_enter func243,ntmps243
 obtain ⟨l1,l2,l3⟩:=aOs h;go_wp2_with fail
 refine (aBg a1 a2 a3 n1 c1 n2 c2 n3 c3 p _ h hm).mono ?_;rintro e w1 ⟨rfl,hb1⟩;have k1:=(Blk.new w (qV a1 n1 c1 a2 n2 c2 a3 n3 c3) 39).bw hb1;have hB1:=hB0.trans (hb1.mono (by simp));obtain ⟨q1,q2,q3,q4⟩:=k1.three;clear hb1 k1;go_wp2_with fail
 refine (iE a1 n1 c1 _ 4 0 _).mono ?_;rw [hi];rintro e wx ⟨rfl,rfl⟩;go_wp2_with fail
 refine (iE a2 n2 c2 _ 4 65536 _).mono ?_;rw [hj];rintro e wx ⟨rfl,rfl⟩;go_wp2;go_ret;exact ⟨rfl,hB1⟩
theorem aLi (a1 a2 a3:qO)(n1 c1 n2 c2 n3 c3:Nat)(p:Int)(w:qw)(h:mok n1 n2 n3=true)(hmax:p<=9223372036854775807)(hm:(p.tmod 4 !=0)=false)(hp:(p==131072)=false)(hi:ins p 4 0 n1=false)(hj:ins p 4 65536 n2=true):
 qC 243 #[.agg (qV a1 n1 c1 a2 n2 c2 a3 n3 c3),qI p,qI 4] w (qB w (qI 0)):=by
 have hB0:qY w (w.alloc (.cells (qV a1 n1 c1 a2 n2 c2 a3 n3 c3) 39)):=bal;go_enter func243,ntmps243
 obtain ⟨l1,l2,l3⟩:=aOs h;go_wp2_with fail
 refine (aBg a1 a2 a3 n1 c1 n2 c2 n3 c3 p _ h hm).mono ?_;rintro e w1 ⟨rfl,hb1⟩;have k1:=(Blk.new w (qV a1 n1 c1 a2 n2 c2 a3 n3 c3) 39).bw hb1;have hB1:=hB0.trans (hb1.mono (by simp));obtain ⟨q1,q2,q3,q4⟩:=k1.three;clear hb1 k1;go_wp2_with fail
 refine (iE a1 n1 c1 _ 4 0 _).mono ?_;rw [hi];rintro e wx ⟨rfl,rfl⟩;go_wp2_with fail
 refine (iE a2 n2 c2 _ 4 65536 _).mono ?_;rw [hj];rintro e wx ⟨rfl,rfl⟩;go_wp2;go_ret;exact ⟨rfl,hB1⟩
def iL (w:qw)(pc:Int)(n:Nat)(zs:qi)(e:Ending)(w':qw):Prop:=
 ∃ a' cap',e=.returned (.agg #[qI pc,qS a' n cap'])/\OI w' w.heap.size (qS a' n cap') zs/\qY w w'
theorem Blk.two' {w:qw}{a b:Value}{t:TypeId}(h:Blk w g #[a,b] t):w.cell? (qR g 0)=some a/\w.cell? (qR g 1)=some b/\∀ i,w.frozen? (qR g i)=false:=
 ⟨by rw [h.cell];rfl,by rw [h.cell];rfl,fun i=>h.frozen i⟩
theorem aCq (pc:Int)(b off n cap:Nat)(zs:qi)(w:qw)(h:IS w (some (qR b off)) n cap zs)(hn0:0<n)(hn:n<=1048576):
 qC 84 #[.agg #[qI pc,qS (some (qR b off)) n cap]] w (iL w pc n zs):=by
 obtain ⟨i0,hi,hz0,hz1,hz2⟩:=info_parts jL;have hl:=h.1;have hB0:qY w (((w.alloc (.cells #[qI pc,qS (some (qR b off)) n cap] 38)).alloc (.cells #[qI 0,qS none 0 0] 38)).alloc (.cells #[] 3)):=(bal.alloc (by simp) _).alloc (by simp;omega) _;have h':=h.bw hB0;have kr:=(Blk.new (w.alloc (.cells #[qI pc,qS (some (qR b off)) n cap] 38)) #[qI 0,qS none 0 0] 38).alloc (.cells #[] 3);try unfold qY at *
 simp only [xF] at kr;have hown:=zh (aDx ((w.alloc (.cells #[qI pc,qS (some (qR b off)) n cap] 38)).alloc (.cells #[qI 0,qS none 0 0] 38)));have hnews:=zh (aAs h');have hone:=zh (ints_oneCell .i64 zs);have hlen:=zh (show (zs.map (Value.int .i64)).length=n*1 by simp;omega);have HB:=zh hB0;have KR:=zh kr;have HH:=zh h;have kb:=((Blk.new w #[qI pc,qS (some (qR b off)) n cap] 38).alloc (.cells #[qI 0,qS none 0 0] 38)).alloc (.cells #[] 3);have KB:=zh kb;clear hB0 kr h h' kb;try unfold qY at *
 simp only [xF] at hown;go_enter func84,ntmps84
 go_wp2
 go_region_law (first
  | (refine step_append_lies _ rfl _ _ 25 rfl (w.heap.size+1+1) 3 i0 (qI 0) 1 8 underlying25 hi hz0 hz1 hz2 rfl (by decide) (qS (some (qR (w.heap.size+1+1) 0)) 0 0) 0 [] rfl (by exact hown.o) (qR b off) n cap (zs.map (Value.int .i64)) rfl hlen.o (by exact hnews.o) hone.o hn0 (by unfold maxLen;omega) (by omega) (by simp only [heap_drew,xF];omega) _ rfl ?_;intro g cap1 w1 hown1 hgr1 hat1 hlt1;obtain ⟨c1,c2,c3⟩:=(cJ hgr1 (by exact KB.o) (by intro e;have e':some w.heap.size=some (w.heap.size+1+1):=e;injection e' with e';omega)).two';have kr1:=zh (cJ hgr1 (by exact KR.o) (by intro e;have e':some (w.heap.size+1)=some (w.heap.size+1+1):=e;injection e' with e';omega));obtain ⟨r1,r2,r3⟩:=kr1.o.two'))
 all_goals
  have hown2:w1.ownsRow (w.heap.size+1+1) 3 1 (qS (qP g) n cap1) n (zs.map (Value.int .i64)):=by simpa using hown1
  have o1:OI w1 (w.heap.size+1+1) (qS (qP g) n cap1) zs:=⟨by rw [hl];exact hown2,HH.o.2.2.1⟩;have hB1:qY w w1:=HB.o.drew.grown hgr1 (by simp only [heap_drew,xF];omega) (fun k hk=>by have e':some (w.heap.size+1+1)=some k:=hk;injection e' with e';omega);have hz:=(kr1.o.set 0 (qI pc)).set 1 (qS (qP g) n cap1);have o2:=((o1.other (qR (w.heap.size+1) 0) (qI pc) (by dsimp only;omega)).other (qR (w.heap.size+1) 1) (qS (qP g) n cap1) (by dsimp only;omega)).mono (base':=w.heap.size) (by omega);have hB2:=(hB1.setCell (p:=(qR (w.heap.size+1) 0)) (by dsimp only;omega) (qI pc)).setCell (p:=(qR (w.heap.size+1) 1)) (by dsimp only;omega) (qS (qP g) n cap1);have hz':Blk ((w1.setCell (qR (w.heap.size+1) 0) (qI pc)).setCell (qR (w.heap.size+1) 1) (qS (qP g) n cap1)) (w.heap.size+1) #[qI pc,qS (qP g) n cap1] 38:=by simpa using hz
  obtain ⟨p1,p2,p3⟩:=hz'.two';have HX:=zh (xA o2 hB2);clear hz hz' o1 o2 hB1 hB2 hown1 hown2 hgr1 hat1 hlt1;go_wp2;exact bodyPost_ret (v:=.agg #[qI pc,qS (qP g) n cap1]) (by simp [results,results84,go_sem,p1,p2]) rfl ⟨some (qR g 0),cap1,rfl,HX.o.1,HX.o.2⟩
theorem aG0 (pc:Int)(a:qO)(n cap:Nat)(l:Int)(w:qw)(h0:0<=l)(h1:l<=1048576)(hn:n<=maxLen)(hs:(n:Int)<=l):
 qC 25 #[.agg #[qI pc,qS a n cap],qI l] w (qB w (qI (l-n))):=by
 have HZ:=zh (fun w=>gA a n cap l w h0 h1 hn);rw [if_neg (by omega)] at HZ;go_enter func25,ntmps25
 go_wp2_with (go_at_call 72;refine (HZ.o _).mono ?_;rintro e w' ⟨rfl,rfl⟩)
 go_ret;exact ⟨rfl,bal⟩
theorem aGz (pc:Int)(a:qO)(n cap:Nat)(l:Int)(w:qw)(h0:0<=l)(h1:l<=1048576)(hn:n<=maxLen)(hs:l<(n:Int)):
 qC 25 #[.agg #[qI pc,qS a n cap],qI l] w (qB w (qI (-1))):=by
 have HZ:=zh (fun w=>gA a n cap l w h0 h1 hn);rw [if_pos hs] at HZ;go_enter func25,ntmps25
 go_wp2_with (go_at_call 72;refine (HZ.o _).mono ?_;rintro e w' ⟨rfl,rfl⟩)
 go_ret;exact ⟨rfl,bal⟩
theorem aDk (pc:Int)(a:qO)(n cap:Nat)(zs:qi)(w:qw)(h:IS w a n cap zs)(hn:n<=1048576):
 qC 34 #[.agg #[qI pc,qS a n cap]] w fun e w'=>∃ g,w.heap.size<=g/\e=.returned (.agg #[qI pc,qS (qP g) n n])/\RowI w' g zs/\qY w w':=by
 have hB0:qY w (((w.alloc (.cells #[qI pc,qS a n cap] 27)).alloc (.cells #[qI 0,qS none 0 0] 38)).alloc (.cells #[qI pc,qS none 0 0] 38)):=(bal.alloc (by simp) _).alloc (by simp;omega) _;have kr:=(Blk.new (w.alloc (.cells #[qI pc,qS a n cap] 27)) #[qI 0,qS none 0 0] 38).alloc (.cells #[qI pc,qS none 0 0] 38);have ko:=Blk.new ((w.alloc (.cells #[qI pc,qS a n cap] 27)).alloc (.cells #[qI 0,qS none 0 0] 38)) #[qI pc,qS none 0 0] 38;try unfold qY at *
 simp only [xF] at kr ko;go_enter func34,ntmps34
 go_wp2_with fail
 refine (iQ a n cap zs _ (h.bw hB0) hn).mono ?_;rintro e w1 ⟨rfl,r1,hb1⟩;have kr1:=kr.bw hb1;have ko1:=ko.bw hb1;have hB1:=hB0.trans (hb1.mono (by simp;omega));try unfold qY at *
 simp only [xF] at r1;obtain ⟨q1,q2,q3⟩:=kr1.two';obtain ⟨p1,p2,p3⟩:=ko1.two';have hz:=((kr1.other (qR (w.heap.size+1+1) 1) (qS (some (qR (w.heap.size+1+1+1) 0)) n n) (by dsimp only;omega)).set 0 (qI pc)).set 1 (qS (some (qR (w.heap.size+1+1+1) 0)) n n)
 have rr:RowI (((w1.setCell (qR (w.heap.size+1+1) 1) (qS (some (qR (w.heap.size+1+1+1) 0)) n n)).setCell (qR (w.heap.size+1) 0) (qI pc)).setCell (qR (w.heap.size+1) 1) (qS (some (qR (w.heap.size+1+1+1) 0)) n n)) (w.heap.size+1+1+1) zs:=by
  unfold RowI at *;rw [heap_setCell_other _ _ _ _ (by dsimp only;omega),heap_setCell_other _ _ _ _ (by dsimp only;omega),heap_setCell_other _ _ _ _ (by dsimp only;omega)];exact r1
 have hB2:=((hB1.setCell (p:=(qR (w.heap.size+1+1) 1)) (by dsimp only;omega) (qS (some (qR (w.heap.size+1+1+1) 0)) n n)).setCell (p:=(qR (w.heap.size+1) 0)) (by dsimp only;omega) (qI pc)).setCell (p:=(qR (w.heap.size+1) 1)) (by dsimp only;omega) (qS (some (qR (w.heap.size+1+1+1) 0)) n n);have hz':Blk (((w1.setCell (qR (w.heap.size+1+1) 1) (qS (some (qR (w.heap.size+1+1+1) 0)) n n)).setCell (qR (w.heap.size+1) 0) (qI pc)).setCell (qR (w.heap.size+1) 1) (qS (some (qR (w.heap.size+1+1+1) 0)) n n)) (w.heap.size+1) #[qI pc,qS (some (qR (w.heap.size+1+1+1) 0)) n n] 38:=by simpa using hz
 obtain ⟨s1,s2,s3⟩:=hz'.two';have HX:=zh (xA rr hB2);clear hz hz' rr hB2 hB1 hb1 r1 kr1 ko1 kr ko hB0;go_wp2;exact bodyPost_ret (v:=.agg #[qI pc,qS (some (qR (w.heap.size+1+1+1) 0)) n n]) (by simp [results,results34,go_sem,s1,s2]) rfl ⟨_,by omega,rfl,HX.o.1,HX.o.2⟩
theorem aC5 (pc:Int)(a b:qO)(n cap cap':Nat)(zs:qi)(w:qw)(h:IS w a n cap zs)(k:IS w b n cap' zs):
 qC 44 #[.agg #[qI pc,qS a n cap],.agg #[qI pc,qS b n cap']] w (qB w (.bool true)):=by
 have hB0:qY w ((w.alloc (.cells #[qI pc,qS a n cap] 38)).alloc (.cells #[qI pc,qS b n cap'] 38)):=bal.alloc (by simp) _;have hp:(pc !=pc)=false:=by simp
 go_enter func44,ntmps44
 go_wp2_with fail
 refine (jF a b n cap n cap' zs zs _ (h.bw hB0) (k.bw hB0)).mono ?_;rw [xR rfl];rintro e w1 ⟨rfl,hb1⟩;go_wp2;go_ret;exact ⟨rfl,hB0.trans (hb1.mono (by simp;omega))⟩
def dA (g:Rg):List Value:=[qI g.1,qI g.2.1,qI g.2.2.1,.bool g.2.2.2.1,.bool g.2.2.2.2.1,.bool g.2.2.2.2.2]
def dO (rs:List Rg):List Value:=rs.flatMap dA
theorem oL:∀ rs:List Rg,(dO rs).length=rs.length*6
 | []=>rfl
 | g::rs=>by simp only [dO,xT,xI];have:=oL rs;simp only [dO] at this;rw [this];simp [dA];omega
theorem oM:∀ (rs:List Rg) (i j:Nat),i<rs.length->j<6->(dO rs)[i*6+j]?=(dA (rs.getD i z6))[j]?
 | [],i,j,h,_=>absurd h (by simp)
 | g::rs,0,j,_,hj=>by
   simp only [dO,xT];rw [List.getElem?_append_left (by simp [dA];omega)];simp
 | g::rs,i+1,j,h,hj=>by
   have hh:=oM rs i j (by simpa using h) hj;simp only [dO,xT] at hh ⊢;rw [List.getElem?_append_right (by simp [dA];omega)];have e:(i+1)*6+j-(dA g).length=i*6+j:=by simp [dA];omega
   rw [e,hh];simp
def ORg (w:qw)(base:Nat)(v:Value)(rs:List Rg):Prop:=w.ownsRow base 214 6 v rs.length (dO rs)/\∀ g∈rs,wfi g.1/\wfi g.2.1/\wfi g.2.2.1
theorem eZ {w:qw}{a:qO}(h:ORg w base (qS a n cap) rs):RS w a n cap rs:=by
 obtain ⟨hl,⟨h0,h0'⟩|⟨g,cap',cur,hv,hg,hh,h1,h2,h3,h4⟩⟩:=h.1
 .simp at h0;obtain ⟨rfl,rfl,rfl⟩:=h0;exact ⟨h0',xC _,h.2,fun hn=>absurd rfl hn,aN⟩
 .simp at hv;obtain ⟨rfl,rfl,rfl⟩:=hv;refine ⟨rfl,by omega,h.2,fun hn=>⟨g,0,rfl,fun i hi=>?_⟩,h1⟩
  have hc:∀ j,j<6->w.cell? (qR g (0+i*6+j))=(dA (rs.getD i z6))[j]?:=by
   intro j hj;rw [Blk.cell (w:=w) hh]
   have:cur.toList[0+i*6+j]?=(dO rs)[i*6+j]?:=by
    rw [<- h4,List.getElem?_take,if_pos (by omega),Nat.zero_add]
   rw [Array.getElem?_toList] at this;rw [this,oM rs i j hi hj]
  exact ⟨hc 0 (by omega),hc 1 (by omega),hc 2 (by omega),hc 3 (by omega),hc 4 (by omega),hc 5 (by omega)⟩
theorem yP {w w':qw}(t:Turn S w w')(h:ORg w base v rs)(hk:∀ k,base<=k->¬ S k):ORg w' base v rs:=by
 refine ⟨?_,h.2⟩;obtain ⟨hl,h0|⟨g',cap,cur,hv,hg,hh,h1,h2,h3,h4⟩⟩:=h.1
 .exact ⟨hl,.inl h0⟩
 .exact ⟨hl,.inr ⟨g',cap,cur,hv,hg,aF t hh (hk g' hg),h1,h2,h3,h4⟩⟩
theorem sA (w:qw)(base:Nat)(hb:base<=w.heap.size):ORg (w.alloc (.cells #[] 214)) base (qS (qP w.heap.size) 0 0) []:=
 ⟨⟨rfl,.inr ⟨w.heap.size,0,#[],rfl,hb,heap_alloc_new w _,aN,xC _,rfl,rfl⟩⟩,fun _ h=>by cases h⟩
theorem mT {w:qw}{t:TypeId}{sz:Nat}{xs:List Value}(h:w.ownsRow base t sz v n xs):∃ a cap,v=qS a n cap:=by
 obtain ⟨_,⟨rfl,rfl⟩|⟨g,cap,cur,rfl,_⟩⟩:=h
 .exact ⟨_,_,rfl⟩
 .exact ⟨_,_,rfl⟩
theorem aJs (w:qw)(g:Rg):∀ j u,(dA g)[j]?=some u->(w.alloc (.cells #[qI g.1,qI g.2.1,qI g.2.2.1,.bool g.2.2.2.1,.bool g.2.2.2.2.1,.bool g.2.2.2.2.2] 214)).cell? (((qR w.heap.size 0):Addr).add j)=some u:=by
 intro j u hj;rw [bN,Nat.zero_add,Blk.cell (Blk.new w _ _),<- hj]
 match j with
 | 0=>rfl
 | 1=>rfl
 | 2=>rfl
 | 3=>rfl
 | 4=>rfl
 | 5=>rfl
 | j+6=>rfl
theorem aL8 (g:Rg):∀ u∈dA g,u.oneCell'=true:=by
 intro u hu;simp [dA] at hu;rcases hu with rfl|rfl|rfl|rfl|rfl|rfl<;>rfl
theorem aAb {W W':qw}{v v':Value}{g:Rg}(hr:∀ g∈rs,wfi g.1/\wfi g.2.1/\wfi g.2.2.1)(hw:wfi g.1/\wfi g.2.1/\wfi g.2.2.1)(h:W'.ownsRow base 214 6 v' (rs.length+1) (dO rs++dA g)):ORg W' base v' (rs++[g]):=by
 refine ⟨by simpa [dO] using h,fun y hy=>?_⟩;rcases List.mem_append.1 hy with hy|hy
 .exact hr y hy
 .simp at hy;subst hy;exact hw
theorem jD {W W':qw}{row:Option Nat}(h:W.grownBy W' row):Turn (fun j=>row=some j) W W':=⟨h.os,h.tape,h.output,h.size,fun k hk hn=>h.block k hk (fun e=>hn e.symm)⟩
theorem cP {w:qw}{o' b:Nat}{v:Value}(h:b≠g\/o'≠o:=by omega):(w.setCell (qR g o) v).cell? (qR b o')=w.cell? (qR b o'):=
 World.cell?_setCell_other _ _ _ _ (by intro e;injection e;rcases h with h|h<;>simp_all)
theorem oS {w:qw}{u:Value}(h:w.cell? (qR g o)=some u):(w.setCell (qR g o) v).cell? (qR g o)=some v:=World.cell?_setCell_same _ _ _ h
def RowW (w:qw)(g:Nat)(rs:List Rg):Prop:=
 (∃ cur,Blk w g cur 214)/\∀ i,i<rs.length->At6 w g (i*6) (rs.getD i z6)
theorem RowW.frozen {w:qw}(h:RowW w g rs)(i:Nat):w.frozen? (qR g i)=false:=by obtain ⟨⟨cur,hb⟩,_⟩:=h;exact hb.frozen i
theorem aL7 {w:qw}(h:ORg w base (qS (qP g) n cap) rs)(hn:n≠0):RowW w g rs:=by
 have hr:=eZ h;have hl:=hr.1;obtain ⟨_,⟨h0,h0'⟩|⟨g',cap',cur,hv,hg,hh,h1,h2,h3,h4⟩⟩:=h.1
 .simp at h0
 .simp at hv;obtain ⟨rfl,_⟩:=hv;exact ⟨⟨cur,hh⟩,fun i hi=>by have:=hr.at i (by omega);rw [Nat.zero_add] at this;exact this⟩
theorem eV {w w':qw}(t:Turn S w w')(h:ORg w base v rs)(hk:∀ k,v.ownBlock=some k->¬ S k):ORg w' base v rs:=by
 refine ⟨?_,h.2⟩;obtain ⟨hl,h0|⟨g',cap,cur,rfl,hg,hh,h1,h2,h3,h4⟩⟩:=h.1
 .exact ⟨hl,.inl h0⟩
 .exact ⟨hl,.inr ⟨g',cap,cur,rfl,hg,aF t hh (hk g' rfl),h1,h2,h3,h4⟩⟩
theorem aFz {w:qw}(h:ORg w base v rs)(k:Nat)(hk:v.ownBlock=some k):k<w.heap.size:=by
 obtain ⟨hl,⟨rfl,h0⟩|⟨g',cap,cur,rfl,hg,hh,h1,h2,h3,h4⟩⟩:=h.1
 .cases hk
 .have e:some g'=some k:=hk;injection e with e
  subst e;exact Blk.lt (w:=w) hh
theorem aJ2 {zs:qi}{v:Int}(h:v∈zs):∃ k,k<zs.length/\zs.getD k 0=v:=by
 obtain ⟨k,hk,e⟩:=List.mem_iff_getElem.1 h;exact ⟨k,hk,by simp [xB,hk,e]⟩
theorem wX {zs:qi}{k:Nat}(h:k<zs.length):zs.getD k 0∈zs:=by
 simp [xB,h]
