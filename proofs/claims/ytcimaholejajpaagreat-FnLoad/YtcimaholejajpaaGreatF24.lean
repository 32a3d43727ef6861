import Derived.Lib.AppendStr
import Derived.Lib.AppendZerosOnto
import Derived.Lib.SmallJoins
import Derived.Test.YtcimaholejajpaaGreatF14
import Derived.Test.YtcimaholejajpaaGreatF22
import Derived.Test.YtcimaholejajpaaGreatF23
set_option linter.all false
set_option maxHeartbeats 16000000
namespace Go.Proofs.YtcimaholejajpaaGreat
open Go.RowKit
open Go.Proofs.Tryz
set_option maxRecDepth 100000
variable {L:List (PMod×Ma)}{M:Ma}{P:PMod}{Ps:List PMod}{W:World}{base c cap g i k1 m n r:Nat}{v:Value}{y:PMod×Ma}{zs:List Int}
def sqi {α:Type}(F:Nat->Nat->α×Nat)(k:Nat):Nat->List α×Nat
 | 0=>([],k)
 | i+1=>((sqi F k i).1++[(F i (sqi F k i).2).1],(F i (sqi F k i).2).2)
theorem oV {α:Type}(F:Nat->Nat->α×Nat)(k:Nat):∀ i,(sqi F k i).1.length=i
 | 0=>rfl
 | i+1=>by simp [sqi,oV F k i]
theorem lN {α:Type}{F:Nat->Nat->α×Nat}{k:Nat}{Q:Nat->α->Prop}{m:Nat}(h:∀ i q,i<m->Q i (F i q).1):∀ i,i<=m->∀ j x,(sqi F k i).1[j]?=some x->Q j x
 | 0,_,j,x,hx=>by simp [sqi] at hx
 | i+1,hi,j,x,hx=>by
   rcases gY (show ((sqi F k i).1++[(F i (sqi F k i).2).1])[j]?=some x from hx) with hx|⟨e,rfl⟩
   .exact lN h i (by omega) j x hx
   .rw [oV] at e;subst e;exact h j _ (by omega)
theorem aMu:(prog.info? 53).map (fun i=>(i.zero,i.size,i.bytes))=some (some (.agg #[.string ⟨#[]⟩,qS none 0 0,qS none 0 0,qS none 0 0,qI 0,qS none 0 0,qS none 0 0,qS none 0 0]),8,168):=by kernel_rfl
theorem rP:∀ q,(nmN q).size<=3
 | 0=>by decide
 | 1=>by decide
 | 2=>by decide
 | _+3=>(by decide:(⟨#[122,122]⟩:ByteArray).size<=3)
theorem sS:∀ q,(exN q).size<=2
 | 0=>by decide
 | 1=>by decide
 | 2=>by decide
 | 3=>by decide
 | _+4=>(by decide:(⟨#[98,100]⟩:ByteArray).size<=2)
def zPd:PMod:=⟨⟨#[]⟩,[],[],[],0,[],[],[]⟩
def aA1 (Ps:List PMod)(V:Int):ByteArray:=(Ps.getD (V%Ps.length).toNat zPd).nm++⟨#[46]⟩++(if 252<=V then ⟨#[98,100]⟩ else exN (V/4%((Ps.getD (V%Ps.length).toNat zPd).bl.length+1)).toNat)
def sH (Ps:List PMod)(zs:qi)(k j:Nat):List ByteArray:=(List.range j).map fun t=>aA1 Ps (zs.getD (k+t) 0)
theorem aFf (Ps:List PMod)(zs:qi)(k j:Nat):sH Ps zs k (j+1)=sH Ps zs k j++[aA1 Ps (zs.getD (k+j) 0)]:=by simp [sH,List.range_succ]
theorem aA2 (Ps:List PMod)(zs:qi)(k j:Nat):(sH Ps zs k j).length=j:=by simp [sH]
def PQ (Ps:List PMod)(zs:qi)(k i j q:Nat):PMod:={ Ps.getD q zPd with ss:=sH Ps zs (k+3*q) (if q<i then 3 else if q=i then j else 0) }
def MsP (w:qw)(r:Nat)(a:qO)(n c:Nat)(zs:qi)(Ps:List PMod)(k':Nat)(e:Ending)(w':qw):Prop:=∃ (g cap:Nat) (L:List (PMod×Ma)),e=.returned (qS (qP g) Ps.length cap)/\Mst w w' r a n c zs k' (qS (qP g) Ps.length cap) L/\L.map (fun x=>x.1)=Ps
def aIk (zs:qi)(k:Nat)(Ps:List PMod)(k':Nat):Prop:=∀ (w:qw) (r:Nat) (a:qO) (n c:Nat) (h:Dst w w r a n c zs k),qC 31 #[.pointer (qP r)] w (MsP w r a n c zs Ps k')
theorem Mst.cell4 {w W w4:qw}{a:qO}{zs:qi}{k:Nat}(h:Mst w W r a n c zs k (qS (qP g) m cap) L)(hy:L[i]?=some y)(hg:W.grownBy w4 (qS y.2.a6 y.1.ss.length y.2.c6).ownBlock):w4.cell? (qR g (i*8+6))=some (qS y.2.a6 y.1.ss.length y.2.c6)/\w4.frozen? (qR g (i*8+6))=false:=by
 obtain ⟨cs,b⟩:=aM h.o (k:=g) rfl;have b4:=jZ b (h.m i y hy).1.i hg (by decide);have c:=h.cells hy 6 (by omega) _ rfl;rw [b.cell] at c;exact ⟨by rw [b4.cell];exact c,b4.frozen _⟩
theorem aEd {zs:qi}{j:Nat}{s:ByteArray}{g4 c4:Nat}(hQ:∀ (q:Nat) (x:PMod×Ma),L[q]?=some x->x.1=PQ Ps zs k1 i j q)(hy:L[i]?=some y)(hs:s=aA1 Ps (zs.getD (k1+3*i+j) 0)):
 ∀ (q:Nat) (x:PMod×Ma),(L.set i ({ y.1 with ss:=y.1.ss++[s] },{ y.2 with a6:=some (qR g4 0),c6:=c4 }))[q]?=some x->x.1=PQ Ps zs k1 i (j+1) q:=fun q x hx=>by
 rcases jW hx with ⟨rfl,rfl⟩|⟨hne,hx⟩
 .have e:=hQ q y hy;show ({ y.1 with ss:=y.1.ss++[s] }:PMod)=_;rw [e];unfold PQ;simp only [Nat.lt_irrefl,if_false,if_true];rw [aFf,hs]
 .rw [hQ q x hx];unfold PQ;simp only [hne,if_false]
theorem aKv {zs:qi}{q:Nat}:PQ Ps zs k1 i 3 q=PQ Ps zs k1 (i+1) 0 q:=by
 unfold PQ;congr 2;split
 .rw [if_pos (by omega)]
 .split
  .rw [if_pos (by omega)]
  .rw [if_neg (by omega)];split<;>rfl
theorem sE (zs:qi)(hz:∀ j,0<=zs.getD j 0/\zs.getD j 0<=255)(k:Nat)(F:Nat->Nat->PMod×Nat)(HF:Hid (∀ i,i<=2->∀ q,aEe zs q i (F i q).1 (F i q).2))(HD:Hid (∀ i,i<=2->∀ q,DmR i (F i q).1))(K:Int)(E1:Hid (zs.getD k 0=K))(z0:0<=K)(z1:K<=255)(m:Nat)(hm:(m:Int)=1+K%3)(Ps:List PMod)(k1:Nat)(HS:Hid (sqi F (k+1) m=(Ps,k1))):
 aIk zs k ((List.range m).map fun q=>PQ Ps zs k1 m 0 q) (k1+3*m):=by
 intro w r a n c h;obtain ⟨iM,hiM,hz0iM,hz1iM,hz2iM⟩:=info_parts aMu;obtain ⟨iT,hiT,hz0iT,hz1iT,hz2iT⟩:=info_parts aDw;have HZ:=aT hz;clear hz;go_enter func31,ntmps31
 go_wp2_with fail
 refine (h.next K E1).mono ?_;rintro e w1 ⟨rfl,D1,_⟩;have hs1:=D1.sz;have M0:Mst w (w1.alloc (.cells #[] 53)) r a n c zs (k+1) (qS (qP w1.heap.size) 0 0) []:=⟨D1.bw (aU _ _),rK 53 8 clM w1 w.heap.size hs1 [] #[] rfl rfl (by unfold maxLen;simp),by simp,by simp,aIu⟩;have HM0:=aT M0;clear M0 h D1;go_wp2;go_loopw [4,5] (fun o i wr=>∃ (j:Nat) (L:List (PMod×Ma)),j<=m/\i=qI j/\Mst w wr r a n c zs (sqi F (k+1) j).2 o L/\L.map (fun x=>x.1)=(sqi F (k+1) j).1) (fun _ i _=>m-(intOf i).toNat)
 .exact ⟨0,[],xC _,rfl,HM0.out,rfl⟩
 .obtain ⟨j,L,hj,rfl,HM,hL⟩:=hrel;generalize wr=wr1 at *;clear HM0;have hLl:L.length=j:=by have:=congrArg List.length hL;rw [xH,oV] at this;exact this
  have HLL:=aT hLl;clear hLl;by_cases hlt:j<m
  .have hlt':(j:Int)<1+K%3:=by omega
   have hL3:L.length<=3:=by have:=HLL.out;omega
   have CC:=aT (HF.out j (by omega) (sqi F (k+1) j).2 wr1 r a n c HM.d.fresh);have EK1:=aT (show (sqi F (k+1) (j+1)).1=L.map (fun x=>x.1)++[(F j (sqi F (k+1) j).2).1] by rw [hL];rfl);have EK2:=aT (show (sqi F (k+1) (j+1)).2=(F j (sqi F (k+1) j).2).2 from rfl);generalize (sqi F (k+1) j).2=kj at *;obtain ⟨P,k',hx⟩:∃ x k',F j kj=(x,k'):=⟨_,_,rfl⟩;rw [hx] at CC EK1 EK2;dsimp only at CC EK1 EK2;obtain ⟨av,cv,rfl⟩:=aO HM.o;have HM:=aT HM;clear hx hL HLL;go_wp2_with fail
   refine CC.out.mono ?_;rintro e wa ⟨M,rfl,da,mo,ds⟩;have HMA:=aT ((HM.out.turn da.t (HM.out.d.trans da)).bw (aU wa (.cells (clM (P,M)).toArray 53)));have HOW:=aT HMA.out.o;have HNW:=aT (aN wa _ 53 (clM (P,M)) rfl);have HSZ:=aT HMA.out.d.sz;have HDA:=aT (xA da (xA mo ds));clear da mo ds CC;unfold fL;go_wp2_with (at_builtin;refine wpList_append_own _ rfl _ _ 28 rfl w.heap.size 53 iM _ 8 _ underlying28 hiM hz0iM hz1iM hz2iM rfl (by decide) (qS av L.length cv) L.length (L.flatMap clM) rfl HOW.out (qR wa.heap.size 0) 1 1 (clM (P,M)) rfl rfl HNW.out (by intro u hu;simp [clM] at hu;rcases hu with rfl|rfl|rfl|rfl|rfl|rfl|rfl|rfl<;>rfl) (by unfold maxLen;omega) (by omega) HSZ.out ?_;intro v' w4 hown hgr _)
   have HF':=aT (Mst.push (x:=(P,M)) HM.out HDA.out.1 HDA.out.2.1 HDA.out.2.2 hown hgr);clear HM HMA HOW HNW HSZ HDA hown hgr;go_wp2
   go_roundw
   .exact ⟨j+1,_,by omega,by go_num,by rw [EK2.out];exact HF'.out,by rw [EK1.out,List.map_append];rfl⟩
   .simp [qf,intOf];omega
  .have hlt':¬ (j:Int)<1+K%3:=by omega
   have ejm:j=m:=by omega
   rw [ejm,HS.out] at HM hL;dsimp only at HM hL;have hPl:Ps.length=m:=by have:=oV F (k+1) m;rw [HS.out] at this;exact this
   obtain ⟨g,cap,rfl,_⟩:=World.ownsRow.form HM.o (by have:=HLL.out;omega);have hLm:L.length=m:=by have:=congrArg List.length hL;rw [xH,hPl] at this;exact this
   have HQ0:=aT (show ∀ (q:Nat) (x:PMod×Ma),L[q]?=some x->x.1=PQ Ps zs k1 0 0 q from fun q x hx=>by
    have e1:Ps[q]?=some x.1:=by rw [<- hL,List.getElem?_map,hx];rfl
    have e2:Ps.getD q zPd=x.1:=by rw [xB,e1];rfl
    have e3:x.1.ss=[]:=by
     have hd:=lN (F:=F) (k:=k+1) (Q:=DmR) (m:=m) (fun i q hi=>HD.out i (by omega) q) m aL q x.1 (by rw [HS.out];exact e1);exact hd.i
    have e4:sH Ps zs (k1+3*q) (if q<0 then 3 else if q=0 then 0 else 0)=[]:=by simp [sH]
    unfold PQ
    rw [e4,e2,<- e3])
   have HPB:=aT (show ∀ q,(Ps.getD q zPd).bl.length<=3/\(Ps.getD q zPd).nm.size<=3 from fun q=>by
    rw [xB];cases e:Ps[q]? with
    | none=>exact ⟨xC _,xC _⟩
    | some P=>
      have hd:=lN (F:=F) (k:=k+1) (Q:=DmR) (m:=m) (fun i q hi=>HD.out i (by omega) q) m aL q P (by rw [HS.out];exact e)
      exact ⟨hd.b.1,by show P.nm.size<=3;rw [hd.n];exact rP q⟩)
   rw [hLm] at HM ⊢;clear HLL;have HM1:=aT HM;have hm1:1<=m:=by omega
   have hm3:m<=3:=by omega
   have HLM:=aT hLm;have HPL:=aT hPl;clear hlt hj ejm HM hL hLm hPl HS HF HD E1 hm;go_wp2;go_loopw [6] (fun i wr=>∃ (i6:Nat) (L:List (PMod×Ma)),i6<=m/\i=qI i6/\Mst w wr r a n c zs (k1+3*i6) (qS (qP g) m cap) L/\L.length=m/\∀ (q:Nat) (x:PMod×Ma),L[q]?=some x->x.1=PQ Ps zs k1 i6 0 q) (qf m)
   .exact ⟨0,L,xC _,rfl,HM1.out,HLM.out,HQ0.out⟩
   .obtain ⟨i6,L6,hi6,rfl,HM6,hL6,hQ6⟩:=hrel;generalize wr=wr6 at *;clear HM1 HQ0 HLM;by_cases hlt:i6<m
    .have hlt':(i6:Int)<(m:Int):=by omega
     have HM6':=aT (xA HM6 (xA hL6 hQ6));clear HM6 hL6 hQ6;go_wp2;go_loopw [7] (fun i wr=>∃ (j:Nat) (L:List (PMod×Ma)),j<=3/\i=qI j/\Mst w wr r a n c zs (k1+3*i6+j) (qS (qP g) m cap) L/\L.length=m/\∀ (q:Nat) (x:PMod×Ma),L[q]?=some x->x.1=PQ Ps zs k1 i6 j q) (qf 3)
     .exact ⟨0,L6,xC _,rfl,HM6'.out.1,HM6'.out.2.1,HM6'.out.2.2⟩
     .obtain ⟨j,L,hj,rfl,HM,hLm,hQ⟩:=hrel;generalize wr=wr7 at *;clear HM6';by_cases hlt3:j<3
      .have hlt3':(j:Int)<3:=by omega
       obtain ⟨V,EV,v0,v1⟩:=aR HZ.out (k1+3*i6+j);have HM:=aT HM;go_wp2_with fail
       refine (HM.out.next V EV).mono ?_;rintro e wa ⟨rfl,MA⟩;clear HM;obtain ⟨t,ht⟩:∃ t:Nat,(t:Int)=V%(m:Int):=⟨(V%(m:Int)).toNat,by have:=Int.emod_nonneg V (show (m:Int)≠0 by omega);omega⟩;have htm:t<m:=by have:=Int.emod_lt_of_pos V (show (0:Int)<(m:Int) by omega);omega
       obtain ⟨x,hx⟩:∃ x,L[t]?=some x:=⟨L[t]'(by omega),by rw [xN]⟩;have hvm:V.tmod (m:Int)=(t:Int):=by rw [xL v0,ht]
       have c0:wa.cell? (qR g (t*8))=some (.string x.1.nm):=MA.cells hx 0 (by omega) _ rfl;have c1:wa.cell? (qR g (t*8+1))=some (qS x.2.a1 x.1.tz.length x.2.c1):=MA.cells hx 1 (by omega) _ rfl;have c2:wa.cell? (qR g (t*8+2))=some (qS x.2.a2 x.2.bl.length x.2.c2):=MA.cells hx 2 (by omega) _ rfl;have c3:wa.cell? (qR g (t*8+3))=some (qS x.2.a3 x.1.dz.length x.2.c3):=MA.cells hx 3 (by omega) _ rfl;have c4:wa.cell? (qR g (t*8+4))=some (qI x.1.bss):=MA.cells hx 4 (by omega) _ rfl;have c5:wa.cell? (qR g (t*8+5))=some (qS x.2.a5 x.1.rz.length x.2.c5):=MA.cells hx 5 (by omega) _ rfl;have c6:wa.cell? (qR g (t*8+6))=some (qS x.2.a6 x.1.ss.length x.2.c6):=MA.cells hx 6 (by omega) _ rfl;have c7:wa.cell? (qR g (t*8+7))=some (qS x.2.a7 x.1.es.length x.2.c7):=MA.cells hx 7 (by omega) _ rfl;have e1:x.1=PQ Ps zs k1 i6 j t:=hQ t x hx
       have hbl:x.2.bl.length=(Ps.getD t zPd).bl.length:=by
        have:=(MA.m t x hx).1.bls;rw [<- xH (f:=fun B:Bk=>B.2.2.2),this,e1];rfl
       have hnm:x.1.nm=(Ps.getD t zPd).nm:=by rw [e1];rfl
       have hnb:x.2.bl.length<=3:=by rw [hbl];exact (HPB.out t).1
       have hns:x.1.nm.size<=3:=by rw [hnm];exact (HPB.out t).2
       obtain ⟨b,hb⟩:∃ b:Nat,V/4%((x.2.bl.length:Int)+1)=(b:Int):=⟨(V/4%((x.2.bl.length:Int)+1)).toNat,by have:=Int.emod_nonneg (V/4) (show ((x.2.bl.length:Int)+1)≠0 by omega);omega⟩;have hb3:b<=3:=by have:=Int.emod_lt_of_pos (V/4) (show (0:Int)<((x.2.bl.length:Int)+1) by omega);omega
       have HI:=aT (show aA1 Ps V=x.1.nm++⟨#[46]⟩++(if 252<=V then ⟨#[98,100]⟩ else exN b) by
        unfold aA1
        rw [HPL.out,<- ht,xY,hnm,<- hbl,hb,xY])
       obtain ⟨y,hy⟩:∃ y,L[i6]?=some y:=⟨L[i6]'(by omega),by rw [xN]⟩
       have hyl:y.1.ss.length<=3:=by
        rw [hQ i6 y hy];unfold PQ;simp only [Nat.lt_irrefl,if_false,if_true,aA2];omega
       have hy:=aT hy;have hMA:=aT (MA.bw (aU wa (.cells (qM x.1.nm x.2.a1 x.1.tz.length x.2.c1 x.2.a2 x.2.bl.length x.2.c2 x.2.a3 x.1.dz.length x.2.c3 x.1.bss x.2.a5 x.1.rz.length x.2.c5 x.2.a6 x.1.ss.length x.2.c6 x.2.a7 x.1.es.length x.2.c7) 53)));have kb:=Blk.new wa (qM x.1.nm x.2.a1 x.1.tz.length x.2.c1 x.2.a2 x.2.bl.length x.2.c2 x.2.a3 x.1.dz.length x.2.c3 x.1.bss x.2.a5 x.1.rz.length x.2.c5 x.2.a6 x.1.ss.length x.2.c6 x.2.a7 x.1.es.length x.2.c7) 53;have hQ':=aT hQ;have HLm:=aT hLm;have htm':(t:Int)<(m:Int):=by omega
       have hm0:¬ (m:Int)=0:=by omega
       clear MA hQ hLm ht e1 hbl hnm;go_wp2_with fail
       refine (eZ ((b:Int)-1) (by omega) (by omega) _).mono ?_;rintro e wb ⟨rfl,hbb⟩;rw [show ((b:Int)-1+1).toNat=b by omega];have MB:=hMA.out.bw hbb;have kb1:=(kb.bw hbb).e0;clear hMA kb hbb c0 c1 c2 c3 c4 c5 c6 c7;by_cases hv:252<=V
       .have hv0:=hv;obtain ⟨sv,hsv⟩:∃ sv,x.1.nm++⟨#[46]⟩++⟨#[98,100]⟩=sv:=⟨_,rfl⟩;have HSV:=aT (show sv=aA1 Ps (zs.getD (k1+3*i6+j) 0) by rw [EV.out,<- hsv,HI.out];rw [if_pos hv]);have HM1:=aT (MB.bw (aU wb (.cells #[.string sv] 9)));have HM2:=aT (MB.drew.bw (aU wb.drew (.cells #[.string sv] 9)));have HM3:=aT HM1.out.drew;have HO3:=aT (HM3.out.m i6 y hy.out).1.i;have d6b:(wb.alloc (.cells #[.string sv] 9)).cell? (qR g (i6*8+6))=some (qS y.2.a6 y.1.ss.length y.2.c6):=HM1.out.cells hy.out 6 (by omega) _ rfl;have HO1:=aT (HM1.out.m i6 y hy.out).1.i;have HO2:=aT (HM2.out.m i6 y hy.out).1.i;have HN1:=aT (aN wb _ 9 (clT sv) rfl);have HN2:=aT (aN wb.drew _ 9 (clT sv) rfl);have hS1:=HM1.out.d.sz;have hS2:=HM2.out.d.sz;have d6:wb.cell? (qR g (i6*8+6))=some (qS y.2.a6 y.1.ss.length y.2.c6):=MB.cells hy.out 6 (by omega) _ rfl;have hMB:=aT MB;have hn1:¬ 9223372036854775807<x.1.nm.size+1:=by omega
        have hn2:¬ 9223372036854775807<x.1.nm.size+1+2:=by omega
        have hn3:¬ 9223372036854775807<x.1.nm.size+1+(exN b).size:=by have:=sS b;omega
        clear MB;go_wp2_with fail
        go_region_law (first
         | (refine step_append_lies _ rfl _ _ 50 rfl w.heap.size 9 iT (.string ⟨#[]⟩) 1 16 underlying50 hiT hz0iT hz1iT hz2iT rfl (by decide) (qS y.2.a6 y.1.ss.length y.2.c6) y.1.ss.length (y.1.ss.flatMap clT) rfl (by first|exact HO1.out|exact HO2.out|exact HO3.out) (qR wb.heap.size 0) 1 1 (clT sv) rfl rfl (by first|exact HN1.out|exact HN2.out) (by intro u hu;simp [clT] at hu;subst hu;rfl) (by decide) (by unfold maxLen;omega) (by omega) (by first|exact hS1|exact hS2) _ rfl ?_;intro g4 c4 w5 hown hgr hat hlt4;obtain ⟨p4,f4⟩:=(show _/\_ from (by first|exact HM1.out.cell4 hy.out hgr|exact HM2.out.cell4 hy.out hgr|exact HM3.out.cell4 hy.out hgr)))
         | (rw [hsv]))
        all_goals
         have HF:=aT (show Mst w (w5.setCell (qR g (i6*8+6)) (qS (qP g4) (y.1.ss.length+1) c4)) r a n c zs (k1+3*i6+j+1) (qS (qP g) m cap) _ from (by first|exact HM1.out.imp HLm.out hy.out hown hgr hat|exact HM2.out.imp HLm.out hy.out hown hgr hat|exact HM3.out.imp HLm.out hy.out hown hgr hat));clear HM1 HM2 HM3 HO1 HO2 HO3 HN1 HN2 d6 d6b hMB hown hgr hat hlt4 p4 f4 kb1 hn1 hn2 hn3;go_wp2
         go_roundw
         .exact ⟨j+1,_,by omega,by go_num,HF.out,by rw [List.length_set];exact HLm.out,aEd hQ'.out hy.out HSV.out⟩
         .simp [qf,intOf];omega
       .have hv0:=hv;obtain ⟨sv,hsv⟩:∃ sv,x.1.nm++⟨#[46]⟩++exN b=sv:=⟨_,rfl⟩;have HSV:=aT (show sv=aA1 Ps (zs.getD (k1+3*i6+j) 0) by rw [EV.out,<- hsv,HI.out];rw [if_neg hv]);have HM1:=aT (MB.bw (aU wb (.cells #[.string sv] 9)));have HM2:=aT (MB.drew.bw (aU wb.drew (.cells #[.string sv] 9)));have HM3:=aT HM1.out.drew;have HO3:=aT (HM3.out.m i6 y hy.out).1.i;have d6b:(wb.alloc (.cells #[.string sv] 9)).cell? (qR g (i6*8+6))=some (qS y.2.a6 y.1.ss.length y.2.c6):=HM1.out.cells hy.out 6 (by omega) _ rfl;have HO1:=aT (HM1.out.m i6 y hy.out).1.i;have HO2:=aT (HM2.out.m i6 y hy.out).1.i;have HN1:=aT (aN wb _ 9 (clT sv) rfl);have HN2:=aT (aN wb.drew _ 9 (clT sv) rfl);have hS1:=HM1.out.d.sz;have hS2:=HM2.out.d.sz;have d6:wb.cell? (qR g (i6*8+6))=some (qS y.2.a6 y.1.ss.length y.2.c6):=MB.cells hy.out 6 (by omega) _ rfl;have hMB:=aT MB;have hn1:¬ 9223372036854775807<x.1.nm.size+1:=by omega
        have hn2:¬ 9223372036854775807<x.1.nm.size+1+2:=by omega
        have hn3:¬ 9223372036854775807<x.1.nm.size+1+(exN b).size:=by have:=sS b;omega
        clear MB;go_wp2_with fail
        go_region_law (first
         | (refine step_append_lies _ rfl _ _ 50 rfl w.heap.size 9 iT (.string ⟨#[]⟩) 1 16 underlying50 hiT hz0iT hz1iT hz2iT rfl (by decide) (qS y.2.a6 y.1.ss.length y.2.c6) y.1.ss.length (y.1.ss.flatMap clT) rfl (by first|exact HO1.out|exact HO2.out|exact HO3.out) (qR wb.heap.size 0) 1 1 (clT sv) rfl rfl (by first|exact HN1.out|exact HN2.out) (by intro u hu;simp [clT] at hu;subst hu;rfl) (by decide) (by unfold maxLen;omega) (by omega) (by first|exact hS1|exact hS2) _ rfl ?_;intro g4 c4 w5 hown hgr hat hlt4;obtain ⟨p4,f4⟩:=(show _/\_ from (by first|exact HM1.out.cell4 hy.out hgr|exact HM2.out.cell4 hy.out hgr|exact HM3.out.cell4 hy.out hgr)))
         | (rw [hsv]))
        all_goals
         have HF:=aT (show Mst w (w5.setCell (qR g (i6*8+6)) (qS (qP g4) (y.1.ss.length+1) c4)) r a n c zs (k1+3*i6+j+1) (qS (qP g) m cap) _ from (by first|exact HM1.out.imp HLm.out hy.out hown hgr hat|exact HM2.out.imp HLm.out hy.out hown hgr hat|exact HM3.out.imp HLm.out hy.out hown hgr hat));clear HM1 HM2 HM3 HO1 HO2 HO3 HN1 HN2 d6 d6b hMB hown hgr hat hlt4 p4 f4 kb1 hn1 hn2 hn3;go_wp2
         go_roundw
         .exact ⟨j+1,_,by omega,by go_num,HF.out,by rw [List.length_set];exact HLm.out,aEd hQ'.out hy.out HSV.out⟩
         .simp [qf,intOf];omega
      .have hlt3':¬ (j:Int)<3:=by omega
       have ej:j=3:=by omega
       rw [ej] at HM hQ;have HF:=aT (xA HM (xA hLm (show ∀ (q:Nat) (x:PMod×Ma),L[q]?=some x->x.1=PQ Ps zs k1 (i6+1) 0 q from fun q x hx=>by rw [<- aKv];exact hQ q x hx)));clear HM hLm hQ ej;go_wp2
       go_roundw
       .exact ⟨i6+1,L,by omega,by go_num,by have:=HF.out.1;rw [show k1+3*i6+3=k1+3*(i6+1) by omega] at this;exact this,HF.out.2.1,HF.out.2.2⟩
       .simp [qf,intOf];omega
    .have hlt':¬ (i6:Int)<(m:Int):=by omega
     have ei:i6=m:=by omega
     rw [ei] at HM6 hQ6;have HF:=aT (xA HM6 (xA hL6 hQ6));clear HM6 hL6 hQ6;go_wp2;go_ret;have hl:((List.range m).map fun q=>PQ Ps zs k1 m 0 q).length=m:=by simp
     refine ⟨g,cap,L6,by rw [hl];rfl,by rw [hl];exact HF.out.1,?_⟩;apply List.ext_getElem?;intro q;rcases Nat.lt_or_ge q m with hq|hq
     .obtain ⟨x,hx⟩:∃ x,L6[q]?=some x:=⟨L6[q]'(by rw [HF.out.2.1];exact hq),by rw [xN]⟩;rw [List.getElem?_map,hx,List.getElem?_map,List.getElem?_range hq];simp [HF.out.2.2 q x hx]
     .rw [xO (by simp [HF.out.2.1];exact hq),xO (by simp;exact hq)]
structure DnR (P:PMod):Prop where
 n:P.nm.size<=3
 t:P.tz.length<=40/\∀ z∈P.tz,0<=z/\z<=4294967295
 b:P.bl.length<=3/\∀ l∈P.bl,l.length<=40/\∀ z∈l,0<=z/\z<=4294967295
 d:P.dz.length<=16/\Byt P.dz
 s:0<=P.bss/\P.bss<=63
 r:P.rz=[]\/P.rz=[0]
 i:P.ss.length<=3/\∀ s∈P.ss,s.size<=6
 e:P.es.length<=4/\∀ x∈P.es,x.1.size<=2/\-1<=x.2.1/\x.2.1<=3/\x.2.2=0
theorem yL (zs:qi)(hz:∀ j,0<=zs.getD j 0/\zs.getD j 0<=255)(k:Nat):∃ y:List PMod×Nat,(1<=y.1.length/\y.1.length<=3/\∀ P∈y.1,DnR P)/\aIk zs k y.1 y.2:=by
 have hF:∀ p:Nat×Nat,∃ y:PMod×Nat,p.1<=2->DmR p.1 y.1/\aEe zs p.2 p.1 y.1 y.2:=fun p=>by
  by_cases hp:p.1<=2
  .obtain ⟨y,hy⟩:=aAw zs hz p.1 (by omega) p.2;exact ⟨y,fun _=>hy⟩
  .exact ⟨(zPd,0),fun h=>absurd h hp⟩
 obtain ⟨F,hF⟩:=Classical.axiomOfChoice hF;obtain ⟨K,E1,z0,z1⟩:=aR hz k;obtain ⟨m,hm⟩:∃ m:Nat,(m:Int)=1+K%3:=⟨(1+K%3).toNat,by omega⟩;have hd:∀ i,i<=2->∀ q,DmR i ((fun i q=>F (i,q)) i q).1:=fun i hi q=>(hF (i,q) hi).1
 have hall:∀ q,DnR (PQ (sqi (fun i q=>F (i,q)) (k+1) m).1 zs (sqi (fun i q=>F (i,q)) (k+1) m).2 m 0 q):=fun q=>by
  have hs:∀ q,((sqi (fun i q=>F (i,q)) (k+1) m).1.getD q zPd).nm.size<=3:=fun q=>by
   rw [xB];cases e:(sqi (fun i q=>F (i,q)) (k+1) m).1[q]? with
   | none=>exact xC _
   | some P=>
     have h:=lN (F:=fun i q=>F (i,q)) (k:=k+1) (Q:=DmR) (m:=m) (fun i q hi=>hd i (by omega) q) m aL q P e;show P.nm.size<=3;rw [h.n];exact rP q
  have hi:(PQ (sqi (fun i q=>F (i,q)) (k+1) m).1 zs (sqi (fun i q=>F (i,q)) (k+1) m).2 m 0 q).ss.length<=3/\∀ s∈(PQ (sqi (fun i q=>F (i,q)) (k+1) m).1 zs (sqi (fun i q=>F (i,q)) (k+1) m).2 m 0 q).ss,s.size<=6:=by
   refine ⟨?_,fun s hs'=>?_⟩
   .show (sH _ _ _ _).length<=3;rw [aA2];split
    .omega
    .split<;>omega
   .have hs'':s∈sH (sqi (fun i q=>F (i,q)) (k+1) m).1 zs ((sqi (fun i q=>F (i,q)) (k+1) m).2+3*q) (if q<m then 3 else if q=m then 0 else 0):=hs';unfold sH at hs'';rw [List.mem_map] at hs'';obtain ⟨t,_,rfl⟩:=hs'';unfold aA1;rw [ByteArray.size_append,ByteArray.size_append];have h1:=hs (zs.getD ((sqi (fun i q=>F (i,q)) (k+1) m).2+3*q+t) 0%((sqi (fun i q=>F (i,q)) (k+1) m).1.length:Int)).toNat
    have h2:∀ (b:Prop) [Decidable b] (x:Nat),(if b then (⟨#[98,100]⟩:ByteArray) else exN x).size<=2:=fun b _ x=>by
     split
     .decide
     .exact sS x
    have h3:=h2 (252<=zs.getD ((sqi (fun i q=>F (i,q)) (k+1) m).2+3*q+t) 0) (zs.getD ((sqi (fun i q=>F (i,q)) (k+1) m).2+3*q+t) 0/4%(((sqi (fun i q=>F (i,q)) (k+1) m).1.getD (zs.getD ((sqi (fun i q=>F (i,q)) (k+1) m).2+3*q+t) 0%((sqi (fun i q=>F (i,q)) (k+1) m).1.length:Int)).toNat zPd).bl.length+1)).toNat;have h4:(⟨#[46]⟩:ByteArray).size=1:=rfl;omega
  have key:∀ P:PMod,P=(sqi (fun i q=>F (i,q)) (k+1) m).1.getD q zPd->DnR { P with ss:=[] }:=fun P e=>by
   rw [xB] at e;cases e':(sqi (fun i q=>F (i,q)) (k+1) m).1[q]? with
   | none=>
     rw [e'] at e;subst e;exact ⟨by decide,⟨by simp [zPd],by simp [zPd]⟩,⟨by simp [zPd],by simp [zPd]⟩,⟨by simp [zPd],fun z hz=>by simp [zPd] at hz⟩,by simp [zPd],.inl rfl,by simp,⟨by simp [zPd],by simp [zPd]⟩⟩
   | some P'=>
     rw [e'] at e;have e:P=P':=e;subst e;have h:=lN (F:=fun i q=>F (i,q)) (k:=k+1) (Q:=DmR) (m:=m) (fun i q hi=>hd i (by omega) q) m aL q P e';exact ⟨by show P.nm.size<=3;rw [h.n];exact rP q,⟨h.t.1.2,h.t.2⟩,h.b,h.d,h.s,h.r,by simp,h.e⟩
  have h0:=key _ rfl;exact ⟨h0.n,h0.t,h0.b,h0.d,h0.s,h0.r,hi,h0.e⟩
 refine ⟨(_,_),⟨?_,?_,?_⟩,sE zs hz k (fun i q=>F (i,q)) (aT (fun i hi q=>(hF (i,q) hi).2)) (aT hd) K E1 z0 z1 m hm _ _ (rfl:sqi (fun i q=>F (i,q)) (k+1) m=((sqi (fun i q=>F (i,q)) (k+1) m).1,(sqi (fun i q=>F (i,q)) (k+1) m).2))⟩
 .simp;omega
 .simp;omega
 .intro P hP;rw [List.mem_map] at hP;obtain ⟨q,_,rfl⟩:=hP;exact hall q
structure DoR (P:PMod):Prop where
 n:P.nm.size<=13
 t:P.tz.length<=201/\∀ z∈P.tz,-1<=z/\z<=4294967296
 b:P.bl.length<=5/\∀ l∈P.bl,l.length<=65/\∀ z∈l,0<=z/\z<=4294967295
 d:P.dz.length<=513/\Byt P.dz
 s:-1<=P.bss/\P.bss<=513
 r:P.rz.length<=2/\∀ z∈P.rz,-4<=z/\z<=512
 i:P.ss.length<=17/\∀ s∈P.ss,s.size<=6
 e:P.es.length<=17/\∀ x∈P.es,x.1.size<=2/\-2<=x.2.1/\x.2.1<=3/\0<=x.2.2/\x.2.2<=3
theorem DnR.dor (h:DnR P):DoR P:=by
 refine ⟨by have:=h.n;omega,⟨by have:=h.t.1;omega,fun z hz=>by have:=h.t.2 z hz;omega⟩,⟨by have:=h.b.1;omega,fun l hl=>⟨by have:=(h.b.2 l hl).1;omega,(h.b.2 l hl).2⟩⟩,⟨by have:=h.d.1;omega,h.d.2⟩,by have:=h.s;omega,?_,⟨by have:=h.i.1;omega,h.i.2⟩,⟨by have:=h.e.1;omega,fun x hx=>by have:=h.e.2 x hx;omega⟩⟩;rcases h.r with e|e<;>rw [e]<;>simp
theorem MO.md (h:MO W base P M)(R:DoR P):
 MD W P.nm M.a1 P.tz.length M.c1 P.tz M.a2 M.bl.length M.c2 M.bl M.a3 P.dz.length M.c3 P.dz P.bss M.a5 P.rz.length M.c5 P.rz M.a6 P.ss.length M.c6 P.ss M.a7 P.es.length M.c7 P.es where
 n:=by have:=R.n;omega
 t:=lV h.t (fun z hz=>by have:=R.t.2 z hz;unfold wfi;omega)
 b:=aDj h.b (fun B hB z hz=>by
  have hm:B.2.2.2∈P.bl:=by rw [<- h.bls];exact List.mem_map.2 ⟨B,hB,rfl⟩
  have:=(R.b.2 _ hm).2 z hz;unfold wfi
  omega)
 d:=h.d.bs
 s:=by have:=R.s;unfold wfi;omega
 r:=lV h.r (fun z hz=>by have:=R.r.2 z hz;unfold wfi;omega)
 i:=aK7 h.i (fun s hs=>by have:=R.i.2 s hs;omega)
 e:=aLa h.e (fun s hs=>by have:=(R.e.2 s hs).1;omega)
theorem MO.mdo' (h:MO W base P M):mdo P.nm P.tz.length P.tz M.bl.length M.bl P.dz.length P.bss P.rz.length P.rz P.ss.length P.ss P.es.length P.es=bI P:=ModO.mdo h
theorem aD7 {bl:List Bk}(h:bl.map (fun B=>B.2.2.2)=P.bl):aFm P.nm P.tz bl.length bl P.dz.length P.dz P.bss P.rz.length P.rz P.ss.length P.ss P.es.length P.es=nP P:=by
 have hl:bl.length=P.bl.length:=by rw [<- h,List.length_map]
 have e:gZ bl bl.length=gZ (dO P.bl) P.bl.length:=by
  unfold gZ dO;rw [List.take_length,List.take_of_length_le (by simp),List.flatMap_map,<- h,List.flatMap_map]
 unfold nP aFm aBf yX yY;rw [e,hl]
theorem fG (nm:ByteArray)(ta:qO)(tn tc:Nat)(tz:qi)(ba:qO)(bn bc:Nat)(bl:List Bk)(da:qO)(dn dc:Nat)(dz:qi)(bss:Int)(ra:qO)(rn rc:Nat)(rz:qi)(ia:qO)(im ic:Nat)(ss:List ByteArray)(ea:qO)(en ec:Nat)(es:List Ex)(w:qw)
 (h:MD w nm ta tn tc tz ba bn bc bl da dn dc dz bss ra rn rc rz ia im ic ss ea en ec es) (hv:mdo nm tn tz bn bl dn bss rn rz im ss en es≠0):
 qC 17 #[.agg (qM nm ta tn tc ba bn bc da dn dc bss ra rn rc ia im ic ea en ec)] w fun e w'=>∃ g,e=.returned (qS (qP g) 0 0)/\OB w' w.heap.size (qS (qP g) 0 0) []/\qY w w':=by
 have HOK:=zh (fun w h=>dX nm ta tn tc tz ba bn bc bl da dn dc dz bss ra rn rc rz ia im ic ss ea en ec es w h);have k0:=Blk.new w (qM nm ta tn tc ba bn bc da dn dc bss ra rn rc ia im ic ea en ec) 53;have hB0:qY w (w.alloc (.cells (qM nm ta tn tc ba bn bc da dn dc bss ra rn rc ia im ic ea en ec) 53)):=bal;generalize mdo nm tn tz bn bl dn bss rn rz im ss en es=v at *;go_enter func17,ntmps17
 go_wp2_with fail
 refine (HOK.o _ (MD.bw h hB0)).mono ?_;rintro e w1 ⟨rfl,hb1⟩;have hB1:=hB0.trans (hb1.mono (by simp));have hs1:=hB1.size;clear hb1 hB0 HOK k0;go_wp2;go_ret;exact ⟨w1.heap.size,rfl,⟨⟨by simp,.inr ⟨w1.heap.size,0,#[],rfl,hs1,heap_alloc_new w1 _,aL,by unfold maxLen;omega,rfl,rfl⟩⟩,by simp⟩,hB1.alloc hs1 _⟩
def cR (P:PMod):List Int:=if bI P=0 then nP P else []
def aO0 (X:qw)(B:qi)(e:Ending)(w':qw):Prop:=∃ g m cap,e=.returned (qS (qP g) m cap)/\OB w' X.heap.size (qS (qP g) m cap) B/\qY X w'
theorem gO {X:qw}(mo:MO X base P M)(DP:DoR P):qC 17 #[.agg (qM P.nm M.a1 P.tz.length M.c1 M.a2 M.bl.length M.c2 M.a3 P.dz.length M.c3 P.bss M.a5 P.rz.length M.c5 M.a6 P.ss.length M.c6 M.a7 P.es.length M.c7)] X (aO0 X (cR P)):=by
 have hda:(M.a3=none/\P.dz.length=0/\M.c3=0)\/∃ db,M.a3=qP db:=by
  obtain ⟨_,⟨h0,_⟩|⟨g,cap,cur,hv,_⟩⟩:=mo.d.1
  .simp at h0;exact .inl (by simp [h0])
  .simp at hv;exact .inr ⟨g,hv.1⟩
 unfold cR;by_cases hv:bI P=0
 .rw [if_pos hv];have h:=fZ P.nm M.a1 P.tz.length M.c1 P.tz M.a2 M.bl.length M.c2 M.bl M.a3 P.dz.length M.c3 P.dz P.bss M.a5 P.rz.length M.c5 P.rz M.a6 P.ss.length M.c6 P.ss M.a7 P.es.length M.c7 P.es X (mo.md DP) (by rw [mo.mdo'];exact hv) hda;rw [aD7 mo.bls] at h;refine h.mono ?_;rintro e w' ⟨a,n,c,rfl,ob,b,_⟩;have hl:=ob.bs.1;have h2:0<(nP P).length:=by rw [mQ];simp
  obtain ⟨g,cap,hg,_⟩:=World.ownsRow.form ob.1 (by omega);rw [hl] at hg;exact ⟨g,n,cap,congrArg Ending.returned hg,by have q:=ob;rw [hg] at q;exact q,b⟩
 .rw [if_neg hv];refine (fG P.nm M.a1 P.tz.length M.c1 P.tz M.a2 M.bl.length M.c2 M.bl M.a3 P.dz.length M.c3 P.dz P.bss M.a5 P.rz.length M.c5 P.rz M.a6 P.ss.length M.c6 P.ss M.a7 P.es.length M.c7 P.es X (mo.md DP) (by rw [mo.mdo'];exact hv)).mono ?_;rintro e w' ⟨g,rfl,ob,b⟩;exact ⟨g,0,0,rfl,ob,b⟩
theorem aGt {W:qw}{B:qi}(h:OB W base (qS (qP g) m cap) B)(p:Nat)(hp:p<=m):OB W base (qS (qP g) p cap) (B.take p):=by
 have hl:=h.bs.1;refine ⟨?_,fun z hz=>h.2 z (List.mem_of_mem_take hz)⟩;obtain ⟨h1,⟨h0,_⟩|⟨g',cap',cur,hv,hg,hh,a1,a2,a3,a4⟩⟩:=h.1
 .simp at h0
 .simp at hv;obtain ⟨rfl,e2,rfl⟩:=hv;have hlp:(B.take p).length=p:=by simp;omega
  refine ⟨by simp,.inr ⟨g,cap,cur,by rw [hlp],hg,hh,by omega,a2,a3,?_⟩⟩;rw [hlp,Nat.mul_one,List.map_take,<- a4,hl,Nat.mul_one,List.take_take,Nat.min_eq_left hp]
theorem aJu {W:qw}{B:qi}(h:OB W base (qS (qP g) m cap) B)(p:Nat)(x:Int)(hx:0<=x/\x<=255):OB (W.setCell (qR g p) (.int .u8 x)) base (qS (qP g) m cap) (B.set p x):=by
 have hl:=h.bs.1;have h1:=h.1;rw [hl] at h1;refine ⟨?_,fun z hz=>?_⟩
 .rw [List.length_set,hl,List.map_set];exact qU h1 p (.int .u8 x)
 .rcases List.mem_or_eq_of_mem_set hz with hz|rfl
  .exact h.2 z hz
  .exact hx
def ImP (w:qw)(r:Nat)(a:qO)(n c:Nat)(zs:qi)(B:qi)(k':Nat)(e:Ending)(w':qw):Prop:=∃ g m cap,e=.returned (qS (qP g) m cap)/\Dst w w' r a n c zs k'/\OB w' w.heap.size (qS (qP g) m cap) B
def vM (zs:qi)(k:Nat)(P:PMod)(B:qi)(k':Nat):Prop:=∀ (w W:qw) (r:Nat) (a:qO) (n c:Nat) (M:Ma) (D:Dst w W r a n c zs k) (o:MO W w.heap.size P M),qC 15 #[.pointer (qP r),.agg (qM P.nm M.a1 P.tz.length M.c1 M.a2 M.bl.length M.c2 M.a3 P.dz.length M.c3 P.bss M.a5 P.rz.length M.c5 M.a6 P.ss.length M.c6 M.a7 P.es.length M.c7)] W (ImP w r a n c zs B k')
theorem fJ {w W W':qw}{B:qi}(h:OB W w.heap.size v B)(ht:Turn (fun j=>j=r) W W')(hr:r<w.heap.size):OB W' w.heap.size v B:=cC ht h (fun k hk e=>by have:=(h.lt k hk).1;omega)
theorem aN2 (zs:qi)(k:Nat)(K:Int)(E1:Hid (zs.getD k 0=K))(z0:0<=K)(z1:K<=255)(P:PMod)(DP:DoR P)(L:Nat)(hL:(cR P).length=L)(hLs:L<=5000)(h0:L=0):vM zs k P (cR P) (k+1):=by
 intro w W r a n c M D o;have al:=aU W (.cells (qM P.nm M.a1 P.tz.length M.c1 M.a2 M.bl.length M.c2 M.a3 P.dz.length M.c3 P.bss M.a5 P.rz.length M.c5 M.a6 P.ss.length M.c6 M.a7 P.es.length M.c7) 53);have kb:=Blk.new W (qM P.nm M.a1 P.tz.length M.c1 M.a2 M.bl.length M.c2 M.a3 P.dz.length M.c3 P.bss M.a5 P.rz.length M.c5 M.a6 P.ss.length M.c6 M.a7 P.es.length M.c7) 53;have D0:=D.bw al;have mo0:=o.bw al;have hs0:=D.sz;have hr:=D.lt;clear al D o;go_enter func15,ntmps15
 go_wp2_with fail
 refine (D0.next K E1).mono ?_;rintro e w1 ⟨rfl,D1,t1⟩;have mo1:=mo0.kept t1 (fun j hj=>.inl (by subst hj;exact hr));obtain ⟨x0,x1,x2,x3,x4,x5,x6,x7⟩:=(aA t1 kb (by omega)).eight';have HS:=zh (gO mo1 DP);clear D0 mo0 kb t1 mo1 E1;go_wp2_with fail
 refine HS.o.mono ?_;rintro e w2 ⟨g,m,cap,rfl,ob,b2⟩;have hm:m=L:=by rw [<- hL];exact ob.bs.1.symm
 subst hm;have HF:=zh (xA (D1.bw b2) (ob.mono D1.sz));clear D1 b2 ob HS x0 x1 x2 x3 x4 x5 x6 x7 hL;subst h0;go_wp2;go_ret;exact ⟨g,0,cap,rfl,HF.o.1,HF.o.2⟩
theorem aN1 (zs:qi)(k:Nat)(K:Int)(E1:Hid (zs.getD k 0=K))(z0:0<=K)(z1:K<=255)(P:PMod)(DP:DoR P)(L:Nat)(hL:(cR P).length=L)(hLs:L<=5000)(h0:0<L)(hk:K%8<5):vM zs k P (cR P) (k+1):=by
 intro w W r a n c M D o;have al:=aU W (.cells (qM P.nm M.a1 P.tz.length M.c1 M.a2 M.bl.length M.c2 M.a3 P.dz.length M.c3 P.bss M.a5 P.rz.length M.c5 M.a6 P.ss.length M.c6 M.a7 P.es.length M.c7) 53);have kb:=Blk.new W (qM P.nm M.a1 P.tz.length M.c1 M.a2 M.bl.length M.c2 M.a3 P.dz.length M.c3 P.bss M.a5 P.rz.length M.c5 M.a6 P.ss.length M.c6 M.a7 P.es.length M.c7) 53;have D0:=D.bw al;have mo0:=o.bw al;have hs0:=D.sz;have hr:=D.lt;clear al D o;go_enter func15,ntmps15
 go_wp2_with fail
 refine (D0.next K E1).mono ?_;rintro e w1 ⟨rfl,D1,t1⟩;have mo1:=mo0.kept t1 (fun j hj=>.inl (by subst hj;exact hr));obtain ⟨x0,x1,x2,x3,x4,x5,x6,x7⟩:=(aA t1 kb (by omega)).eight';have HS:=zh (gO mo1 DP);clear D0 mo0 kb t1 mo1 E1;go_wp2_with fail
 refine HS.o.mono ?_;rintro e w2 ⟨g,m,cap,rfl,ob,b2⟩;have hm:m=L:=by rw [<- hL];exact ob.bs.1.symm
 subst hm;have HF:=zh (xA (D1.bw b2) (ob.mono D1.sz));clear D1 b2 ob HS x0 x1 x2 x3 x4 x5 x6 x7 hL;have hn0:¬ m=0:=by omega
 have hn1:¬ (m:Int)=0:=by omega
 go_wp2;go_ret;exact ⟨g,m,cap,rfl,HF.o.1,HF.o.2⟩
theorem aN0 (zs:qi)(k:Nat)(K:Int)(E1:Hid (zs.getD k 0=K))(z0:0<=K)(z1:K<=255)(P:PMod)(DP:DoR P)(L:Nat)(hL:(cR P).length=L)(hLs:L<=5000)(h0:0<L)(V1 V2:Int)(E2:Hid (zs.getD (k+1) 0=V1))(E3:Hid (zs.getD (k+1+1) 0=V2))(a0:0<=V1)(a1:V1<=255)(b0:0<=V2)(b1:V2<=255)(p:Nat)(hp:(p:Int)=(V1*256+V2)%(L:Int))(hk:K%8=5):vM zs k P ((cR P).take p) (k+1+1+1):=by
 intro w W r a n c M D o;have al:=aU W (.cells (qM P.nm M.a1 P.tz.length M.c1 M.a2 M.bl.length M.c2 M.a3 P.dz.length M.c3 P.bss M.a5 P.rz.length M.c5 M.a6 P.ss.length M.c6 M.a7 P.es.length M.c7) 53);have kb:=Blk.new W (qM P.nm M.a1 P.tz.length M.c1 M.a2 M.bl.length M.c2 M.a3 P.dz.length M.c3 P.bss M.a5 P.rz.length M.c5 M.a6 P.ss.length M.c6 M.a7 P.es.length M.c7) 53;have D0:=D.bw al;have mo0:=o.bw al;have hs0:=D.sz;have hr:=D.lt;clear al D o;go_enter func15,ntmps15
 go_wp2_with fail
 refine (D0.next K E1).mono ?_;rintro e w1 ⟨rfl,D1,t1⟩;have mo1:=mo0.kept t1 (fun j hj=>.inl (by subst hj;exact hr));obtain ⟨x0,x1,x2,x3,x4,x5,x6,x7⟩:=(aA t1 kb (by omega)).eight';have HS:=zh (gO mo1 DP);clear D0 mo0 kb t1 mo1 E1;go_wp2_with fail
 refine HS.o.mono ?_;rintro e w2 ⟨g,m,cap,rfl,ob,b2⟩;have hm:m=L:=by rw [<- hL];exact ob.bs.1.symm
 subst hm;have HF:=zh (xA (D1.bw b2) (ob.mono D1.sz));clear D1 b2 ob HS x0 x1 x2 x3 x4 x5 x6 x7 hL;have hn0:¬ m=0:=by omega
 have hn1:¬ (m:Int)=0:=by omega
 have hk5:¬ K%8<5:=by omega
 go_wp2_with fail
 refine (HF.o.1.next V1 E2).mono ?_;rintro e w3 ⟨rfl,D3,t3⟩;have o3:=fJ HF.o.2 t3 hr;clear t3 HF;go_wp2_with fail
 refine (D3.next V2 E3).mono ?_;rintro e w4 ⟨rfl,D4,t4⟩;have o4:=fJ o3 t4 hr;have hvm:(V1*256+V2).tmod (m:Int)=(p:Int):=by rw [xL (by omega),hp]
 have hpm:p<m:=by have:=Int.emod_lt_of_pos (V1*256+V2) (show (0:Int)<(m:Int) by omega);omega
 have hpm':(p:Int)<(m:Int):=by omega
 have hpe:(V1*256+V2)%(m:Int)=(p:Int):=hp.symm;have hpl:p<=m:=by omega
 have hpl':(p:Int)<=(m:Int):=by omega
 have hcap:m<=cap:=o4.bs.2.2.2.2;have HF:=zh (xA D4 o4);clear t4 o3 D3 D4 hp E2 E3;go_wp2;go_ret;exact ⟨g,p,cap,rfl,HF.o.1,aGt o4 p hpl⟩
theorem aNz (zs:qi)(k:Nat)(K:Int)(E1:Hid (zs.getD k 0=K))(z0:0<=K)(z1:K<=255)(P:PMod)(DP:DoR P)(L:Nat)(hL:(cR P).length=L)(hLs:L<=5000)(h0:0<L)(V1 V2:Int)(E2:Hid (zs.getD (k+1) 0=V1))(E3:Hid (zs.getD (k+1+1) 0=V2))(a0:0<=V1)(a1:V1<=255)(b0:0<=V2)(b1:V2<=255)(p:Nat)(hp:(p:Int)=(V1*256+V2)%(L:Int))(hk:K%8=6)(V3:Int)(E4:Hid (zs.getD (k+1+1+1) 0=V3))(c0:0<=V3)(c1:V3<=255):vM zs k P ((cR P).set p V3) (k+1+1+1+1):=by
 intro w W r a n c M D o;have al:=aU W (.cells (qM P.nm M.a1 P.tz.length M.c1 M.a2 M.bl.length M.c2 M.a3 P.dz.length M.c3 P.bss M.a5 P.rz.length M.c5 M.a6 P.ss.length M.c6 M.a7 P.es.length M.c7) 53);have kb:=Blk.new W (qM P.nm M.a1 P.tz.length M.c1 M.a2 M.bl.length M.c2 M.a3 P.dz.length M.c3 P.bss M.a5 P.rz.length M.c5 M.a6 P.ss.length M.c6 M.a7 P.es.length M.c7) 53;have D0:=D.bw al;have mo0:=o.bw al;have hs0:=D.sz;have hr:=D.lt;clear al D o;go_enter func15,ntmps15
 go_wp2_with fail
 refine (D0.next K E1).mono ?_;rintro e w1 ⟨rfl,D1,t1⟩;have mo1:=mo0.kept t1 (fun j hj=>.inl (by subst hj;exact hr));obtain ⟨x0,x1,x2,x3,x4,x5,x6,x7⟩:=(aA t1 kb (by omega)).eight';have HS:=zh (gO mo1 DP);clear D0 mo0 kb t1 mo1 E1;go_wp2_with fail
 refine HS.o.mono ?_;rintro e w2 ⟨g,m,cap,rfl,ob,b2⟩;have hm:m=L:=by rw [<- hL];exact ob.bs.1.symm
 subst hm;have HF:=zh (xA (D1.bw b2) (ob.mono D1.sz));clear D1 b2 ob HS x0 x1 x2 x3 x4 x5 x6 x7 hL;have hn0:¬ m=0:=by omega
 have hn1:¬ (m:Int)=0:=by omega
 have hk5:¬ K%8<5:=by omega
 go_wp2_with fail
 refine (HF.o.1.next V1 E2).mono ?_;rintro e w3 ⟨rfl,D3,t3⟩;have o3:=fJ HF.o.2 t3 hr;clear t3 HF;go_wp2_with fail
 refine (D3.next V2 E3).mono ?_;rintro e w4 ⟨rfl,D4,t4⟩;have o4:=fJ o3 t4 hr;have hvm:(V1*256+V2).tmod (m:Int)=(p:Int):=by rw [xL (by omega),hp]
 have hpm:p<m:=by have:=Int.emod_lt_of_pos (V1*256+V2) (show (0:Int)<(m:Int) by omega);omega
 have hpm':(p:Int)<(m:Int):=by omega
 have hpe:(V1*256+V2)%(m:Int)=(p:Int):=hp.symm;have hpl:p<=m:=by omega
 have hpl':(p:Int)<=(m:Int):=by omega
 have hcap:m<=cap:=o4.bs.2.2.2.2;have HF:=zh (xA D4 o4);clear t4 o3 D3 D4 hp E2 E3;go_wp2_with fail
 refine (HF.o.1.next V3 E4).mono ?_;rintro e w5 ⟨rfl,D5,t5⟩;have o5:=fJ o4 t5 hr;obtain ⟨q,hq⟩:∃ q,w5.cell? ⟨g,p,none⟩=some q:=⟨_,by have:=o5.bs.at p hpm;rw [Nat.zero_add] at this;exact this⟩;obtain ⟨cs,kc⟩:=aM o5.1 (k:=g) rfl;have fq:=kc.frozen p;have hg:=(o5.lt g rfl).1;have HF:=zh (xA (D5.set hg p (.int .u8 V3)) (aJu o5 p V3 ⟨c0,c1⟩));clear t5 o4 o5 D5 kc;go_wp2;go_ret;exact ⟨g,m,cap,rfl,HF.o.1,HF.o.2⟩
theorem aNy (zs:qi)(k:Nat)(K:Int)(E1:Hid (zs.getD k 0=K))(z0:0<=K)(z1:K<=255)(P:PMod)(DP:DoR P)(L:Nat)(hL:(cR P).length=L)(hLs:L<=5000)(h0:0<L)(V1 V2:Int)(E2:Hid (zs.getD (k+1) 0=V1))(E3:Hid (zs.getD (k+1+1) 0=V2))(a0:0<=V1)(a1:V1<=255)(b0:0<=V2)(b1:V2<=255)(p:Nat)(hp:(p:Int)=(V1*256+V2)%(L:Int))(hk:K%8=7):vM zs k P (cR P++[K]) (k+1+1+1):=by
 intro w W r a n c M D o;have al:=aU W (.cells (qM P.nm M.a1 P.tz.length M.c1 M.a2 M.bl.length M.c2 M.a3 P.dz.length M.c3 P.bss M.a5 P.rz.length M.c5 M.a6 P.ss.length M.c6 M.a7 P.es.length M.c7) 53);have kb:=Blk.new W (qM P.nm M.a1 P.tz.length M.c1 M.a2 M.bl.length M.c2 M.a3 P.dz.length M.c3 P.bss M.a5 P.rz.length M.c5 M.a6 P.ss.length M.c6 M.a7 P.es.length M.c7) 53;have D0:=D.bw al;have mo0:=o.bw al;have hs0:=D.sz;have hr:=D.lt;clear al D o;go_enter func15,ntmps15
 go_wp2_with fail
 refine (D0.next K E1).mono ?_;rintro e w1 ⟨rfl,D1,t1⟩;have mo1:=mo0.kept t1 (fun j hj=>.inl (by subst hj;exact hr));obtain ⟨x0,x1,x2,x3,x4,x5,x6,x7⟩:=(aA t1 kb (by omega)).eight';have HS:=zh (gO mo1 DP);clear D0 mo0 kb t1 mo1 E1;go_wp2_with fail
 refine HS.o.mono ?_;rintro e w2 ⟨g,m,cap,rfl,ob,b2⟩;have hm:m=L:=by rw [<- hL];exact ob.bs.1.symm
 subst hm;have HF:=zh (xA (D1.bw b2) (ob.mono D1.sz));clear D1 b2 ob HS x0 x1 x2 x3 x4 x5 x6 x7 hL;have hn0:¬ m=0:=by omega
 have hn1:¬ (m:Int)=0:=by omega
 have hk5:¬ K%8<5:=by omega
 go_wp2_with fail
 refine (HF.o.1.next V1 E2).mono ?_;rintro e w3 ⟨rfl,D3,t3⟩;have o3:=fJ HF.o.2 t3 hr;clear t3 HF;go_wp2_with fail
 refine (D3.next V2 E3).mono ?_;rintro e w4 ⟨rfl,D4,t4⟩;have o4:=fJ o3 t4 hr;have hvm:(V1*256+V2).tmod (m:Int)=(p:Int):=by rw [xL (by omega),hp]
 have hpm:p<m:=by have:=Int.emod_lt_of_pos (V1*256+V2) (show (0:Int)<(m:Int) by omega);omega
 have hpm':(p:Int)<(m:Int):=by omega
 have hpe:(V1*256+V2)%(m:Int)=(p:Int):=hp.symm;have hpl:p<=m:=by omega
 have hpl':(p:Int)<=(m:Int):=by omega
 have hcap:m<=cap:=o4.bs.2.2.2.2;have HF:=zh (xA D4 o4);clear t4 o3 D3 D4 hp E2 E3;obtain ⟨i8,hi8,hz0i8,hz1i8,hz2i8⟩:=info_parts gW;have al:=aU w4 (.cells #[.int .u8 K] 5);have o5:=o4.bw al;have HO:=zh o5.1;rw [o5.bs.1] at HO;have HN:=zh (aN w4 _ 5 [.int .u8 K] rfl);have hS:=(HF.o.1.bw al).sz;have HD:=zh (HF.o.1.bw al);have HOB:=zh o5;clear al o4 o5;go_wp2_with (at_builtin;refine wpList_append_lies _ rfl _ _ 22 rfl w.heap.size 5 i8 (.int .u8 0) 1 1 underlying22 hi8 hz0i8 hz1i8 hz2i8 rfl (by decide) (qS (qP g) m cap) m ((cR P).map (Value.int .u8)) rfl HO.o (qR w4.heap.size 0) 1 1 [.int .u8 K] rfl rfl HN.o (by intro u hu;simp at hu;subst hu;rfl) (by decide) (by unfold maxLen;omega) (by omega) hS _ rfl ?_;intro g4 c4 w5 hown hgr hat hlt4)
 have HG:=zh (xA (HD.o.grown hgr (fun j hj=>(HOB.o.lt j hj).1)) (show OB w5 w.heap.size (qS (qP g4) (m+1) c4) (cR P++[K]) from ⟨by rw [xI,HOB.o.bs.1,List.map_append];exact hown,fun z hz=>by rcases List.mem_append.1 hz with hz|hz;exact HOB.o.2 z hz;simp at hz;subst hz;exact ⟨z0,z1⟩⟩));go_wp2;go_ret;exact ⟨g4,m+1,c4,rfl,HG.o.1,HG.o.2⟩
theorem tA (DP:DoR P):Byt (cR P)/\(cR P).length<=5000:=by
 unfold cR;by_cases hv:bI P=0
 .rw [if_pos hv];refine ⟨aBe DP.d.2,?_⟩;have:=sZ (aFs hv);rw [mQ];simp;omega
 .rw [if_neg hv];exact ⟨fun z hz=>by simp at hz,by simp⟩
theorem aCg (zs:qi)(hz:∀ j,0<=zs.getD j 0/\zs.getD j 0<=255)(k:Nat)(P:PMod)(DP:DoR P):∃ y:List Int×Nat,(Byt y.1/\y.1.length<=5001)/\vM zs k P y.1 y.2:=by
 obtain ⟨K,E1,z0,z1⟩:=aR hz k;obtain ⟨V1,E2,a0,a1⟩:=aR hz (k+1);obtain ⟨V2,E3,b0,b1⟩:=aR hz (k+1+1);obtain ⟨V3,E4,c0,c1⟩:=aR hz (k+1+1+1);obtain ⟨hb,hl⟩:=tA DP;by_cases h0:(cR P).length=0
 .exact ⟨(cR P,k+1),⟨hb,by show (cR P).length<=5001;omega⟩,aN2 zs k K E1 z0 z1 P DP _ rfl hl h0⟩
 have h0':0<(cR P).length:=by omega
 obtain ⟨p,hp⟩:∃ p:Nat,(p:Int)=(V1*256+V2)%((cR P).length:Int):=⟨((V1*256+V2)%((cR P).length:Int)).toNat,by have:=Int.emod_nonneg (V1*256+V2) (show ((cR P).length:Int)≠0 by omega);omega⟩;rcases (show K%8<5\/K%8=5\/K%8=6\/K%8=7 by omega) with hk|hk|hk|hk
 .exact ⟨(cR P,k+1),⟨hb,by show (cR P).length<=5001;omega⟩,aN1 zs k K E1 z0 z1 P DP _ rfl hl h0' hk⟩
 .refine ⟨(_,_),⟨?_,?_⟩,aN0 zs k K E1 z0 z1 P DP _ rfl hl h0' V1 V2 E2 E3 a0 a1 b0 b1 p hp hk⟩
  .exact fun z hz=>hb z (List.mem_of_mem_take hz)
  .show ((cR P).take p).length<=5001;simp;omega
 .refine ⟨(_,_),⟨?_,?_⟩,aNz zs k K E1 z0 z1 P DP _ rfl hl h0' V1 V2 E2 E3 a0 a1 b0 b1 p hp hk V3 E4 c0 c1⟩
  .intro z hz;rcases List.mem_or_eq_of_mem_set hz with hz|rfl
   .exact hb z hz
   .exact ⟨c0,c1⟩
  .show ((cR P).set p V3).length<=5001;simp;omega
 .refine ⟨(_,_),⟨?_,?_⟩,aNy zs k K E1 z0 z1 P DP _ rfl hl h0' V1 V2 E2 E3 a0 a1 b0 b1 p hp hk⟩
  .intro z hz;rcases List.mem_append.1 hz with hz|hz
   .exact hb z hz
   .simp at hz;subst hz;exact ⟨z0,z1⟩
  .show (cR P++[K]).length<=5001;simp;omega
abbrev Yx:=Nat×Nat×List Int
def clY (x:Yx):List Value:=[qS (qP x.1) x.2.2.length x.2.1]
theorem mL:∀ Q:List Yx,Q.flatMap clY=Q.map fun x=>qS (qP x.1) x.2.2.length x.2.1
 | []=>rfl
 | x::Q=>by rw [List.flatMap_cons,mL Q];rfl
structure Imo (W:qw)(base:Nat)(v:Value)(Q:List Yx):Prop where
 o:OG 22 1 clY W base v Q
 m:∀ x∈Q,OB W base (qS (qP x.1) x.2.2.length x.2.1) x.2.2/\x.2.2.length<=5001
section
variable {W W':qw}{base base':Nat}{v v':Value}{Q:List Yx}{x:Yx}
theorem Imo.bw (h:Imo W base v Q)(hb:qY W W'):Imo W' base v Q:=⟨h.o.bw hb,fun x hx=>⟨(h.m x hx).1.bw hb,(h.m x hx).2⟩⟩
theorem Imo.mono (h:Imo W base v Q)(hb:base'<=base):Imo W base' v Q:=⟨h.o.mono hb,fun x hx=>⟨(h.m x hx).1.mono hb,(h.m x hx).2⟩⟩
theorem Imo.turn {S:Nat->Prop}(h:Imo W base v Q)(t:Turn S W W')(hS:∀ j,S j->j<base):Imo W' base v Q:=⟨h.o.kept t (fun k hk s=>by have:=(h.o.lt k hk).1;have:=hS k s;omega),fun x hx=>⟨cC t (h.m x hx).1 (fun k hk s=>by have:=((h.m x hx).1.lt k hk).1;have:=hS k s;omega),(h.m x hx).2⟩⟩
theorem Imo.push (h:Imo W base v Q)(hg:W.grownBy W' v.ownBlock)(q:OG 22 1 clY W' base v' (Q++[x]))(hx:OB W base (qS (qP x.1) x.2.2.length x.2.1) x.2.2)(hl:x.2.2.length<=5001):Imo W' base v' (Q++[x]):=by
 have key:∀ {y:Yx},OB W base (qS (qP y.1) y.2.2.length y.2.1) y.2.2->OB W' base (qS (qP y.1) y.2.2.length y.2.1) y.2.2:=fun {y} o=>o.grown' hg (.inr (fun e=>by
  obtain ⟨_,k1⟩:=aM o.1 (k:=y.1) rfl;obtain ⟨_,k2⟩:=aM h.o (k:=y.1) (e.symm.trans rfl)
  exact absurd (aW k1 k2) (by decide)))
 refine ⟨q,fun y hy=>?_⟩;rcases List.mem_append.1 hy with hy|hy
 .exact ⟨key (h.m y hy).1,(h.m y hy).2⟩
 .rw [List.mem_singleton.1 hy];exact ⟨key hx,hl⟩
theorem Imo.img {cp:Nat}(h:Imo W base (qS (qP g) n cp) Q):Img W g n cp (Q.map fun x=>x.1) (Q.map fun x=>x.2.1) (Q.map fun x=>(qP x.1,x.2.2.length,x.2.1,x.2.2)):=by
 obtain ⟨hl,_,_,hc⟩:=bG h.o
 have at':∀ i,i<n->∃ y,Q[i]?=some y/\(Q.map fun x=>x.1).getD i 0=y.1/\(Q.map fun x=>x.2.1).getD i 0=y.2.1/\(Q.map fun x=>((qP x.1:qO),x.2.2.length,x.2.1,x.2.2)).getD i zB=(qP y.1,y.2.2.length,y.2.1,y.2.2):=fun i hi=>by
  have hi':i<Q.length:=by omega
  refine ⟨Q[i],List.getElem?_eq_getElem hi',?_,?_,?_⟩<;>simp [List.getD_eq_getElem?_getD,hi']
 refine ⟨fun i hi=>?_,by simpa using hl,fun i hi=>?_,fun i hi=>?_⟩
 all_goals
  obtain ⟨y,hy,e1,e2,e3⟩:=at' i hi;have mm:=h.m y (List.mem_of_getElem? hy);simp only [e1,e2,e3]
 .refine ⟨?_,mm.1.bs⟩;obtain ⟨g',e,c⟩:=hc (by omega);obtain rfl:g=g':=by simpa using e
  refine c i _ ?_;rw [mL,List.getElem?_map,hy];rfl
 .exact (mm.1.lt _ rfl).2
 .exact ⟨mm.1.2,by have:=mm.2;omega⟩
end
theorem aCl:(prog.info? 22).map (fun i=>(i.zero,i.size,i.bytes))=some (some (qS none 0 0),1,24):=by kernel_rfl
def LiP (w:qw)(r:Nat)(a:qO)(n c:Nat)(zs:qi)(e:Ending)(w':qw):Prop:=∃ (g cp:Nat) (Q:List Yx) (k':Nat) (Ps:List PMod),e=.returned (qS (qP g) Q.length cp)/\Imo w' w.heap.size (qS (qP g) Q.length cp) Q/\Dst w w' r a n c zs k'/\Q.map (fun x=>x.2.2)=Ps.map cR/\1<=Ps.length/\Ps.length<=3/\∀ P∈Ps,DnR P
theorem yJ (zs:qi)(hz:∀ j,0<=zs.getD j 0/\zs.getD j 0<=255)(k:Nat)(w:qw)(r:Nat)(a:qO)(n c:Nat)(h:Dst w w r a n c zs k):qC 12 #[.pointer (qP r)] w (LiP w r a n c zs):=by
 obtain ⟨⟨Ps,k'⟩,⟨p1,p2,pD⟩,HF⟩:=yL zs hz k;dsimp only at p1 p2 pD HF;obtain ⟨iY,hi,hz0,hz1,hz2⟩:=info_parts aCl;have HF:=zh (HF w r a n c h);clear h;go_enter func12,ntmps12
 go_wp2_with fail
 refine HF.o.mono ?_;rintro e w1 ⟨g,cap,L,rfl,st,eL⟩;have hL:L.length=Ps.length:=by have:=congrArg List.length eL;simpa using this
 have HST:=zh (fun (X:qw) (hX:qY w1 X)=>st.bw hX);have HEL:=zh eL;have hws:w.heap.size<=w1.heap.size:=st.d.sz;have HO:=zh (xA (cJ 22 1 clY w1 w1.heap.size aL) (bal (w:=w1) (o:=.cells #[] 22)));generalize hpn:Ps.length=pn at *;clear st eL HF;go_wp2_with fail
 go_loopw [4,5] (fun v i wr=>∃ (j:Nat) (Q:List Yx),j<=pn/\i=qI j/\Imo wr w1.heap.size v Q/\qY w1 wr/\Q.map (fun x=>x.2.2)=(Ps.take j).map cR) (fun _ i _=>pn-(intOf i).toNat)
 .exact ⟨0,[],xC _,rfl,⟨HO.o.1,fun x hx=>by cases hx⟩,HO.o.2,by simp⟩
 .obtain ⟨j,Q,hj,rfl,I,hb,hQ⟩:=hrel;clear HO;have hql:Q.length=j:=by have:=congrArg List.length hQ;simp at this;omega
  obtain ⟨av,cv,rfl⟩:=aO I.o;rw [hql] at I ⊢;by_cases hlt:j<pn
  .have hlt':(j:Int)<(pn:Int):=by omega
   obtain ⟨y,hy⟩:∃ y,L[j]?=some y:=⟨L[j]'(by omega),List.getElem?_eq_getElem (by omega)⟩;have hyP:Ps[j]?=some y.1:=by rw [<- HEL.o,List.getElem?_map,hy];rfl
   have sx:=HST.o wr hb;have q0:=sx.cells hy 0 (by omega) _ rfl;rw [Nat.add_zero] at q0;have q1:=sx.cells hy 1 (by omega) _ rfl;have q2:=sx.cells hy 2 (by omega) _ rfl;have q3:=sx.cells hy 3 (by omega) _ rfl;have q4:=sx.cells hy 4 (by omega) _ rfl;have q5:=sx.cells hy 5 (by omega) _ rfl;have q6:=sx.cells hy 6 (by omega) _ rfl;have q7:=sx.cells hy 7 (by omega) _ rfl;have DP:=(pD y.1 (List.mem_of_getElem? hyP)).dor;have CE:=zh (gO (sx.m j y hy).1 DP);have HEF:=zh (tA DP);have HI:=zh (xA I (xA hb hQ));have HyP:=zh hyP;obtain ⟨P,M⟩:=y;dsimp only at q0 q1 q2 q3 q4 q5 q6 q7 CE HEF HyP;clear sx I hb hQ hyP hy DP;go_wp2_with fail
   refine CE.o.mono ?_;rintro e X1 ⟨g1,m1,c1,rfl,o1,hb1⟩;obtain ⟨B,hB⟩:=eqx (cR P);rw [<- hB] at o1;obtain rfl:B.length=m1:=o1.bs.1;have HX:=zh (xA (HI.o.1.bw hb1) (xA (HI.o.2.1.trans (hb1.mono HI.o.2.1.size)) (o1.mono HI.o.2.1.size)));have HB:=zh hB;have HNW:=zh (aN X1 #[qS (qP g1) B.length c1] 22 (clY (g1,c1,B)) rfl)
   have HOW:=zh (show (X1.alloc (.cells #[qS (qP g1) B.length c1] 22)).ownsRow w1.heap.size 22 1 (qS av j cv) j (Q.flatMap clY) from by
    have:=HX.o.1.o.bw (bal (w:=X1) (o:=.cells #[qS (qP g1) B.length c1] 22));unfold OG at this;rw [hql] at this
    exact this)
   have hsx:w1.heap.size<=X1.heap.size:=HX.o.2.1.size;clear o1 hb1 hB q0 q1 q2 q3 q4 q5 q6 q7 CE;go_wp2_with (at_builtin;refine wpList_append_own _ rfl _ _ 23 rfl w1.heap.size 22 iY (qS none 0 0) 1 24 underlying23 hi hz0 hz1 hz2 rfl (by decide) (qS av j cv) j (Q.flatMap clY) rfl HOW.o (qR X1.heap.size 0) 1 1 (clY (g1,c1,B)) rfl rfl HNW.o (by intro u hu;simp [clY] at hu;rw [hu];rfl) (by unfold maxLen;omega) (by omega) (by simp;omega) ?_;intro v' w4 hown hgr _)
   have HF:=zh (show Imo w4 w1.heap.size v' (Q++[(g1,c1,B)])/\qY w1 w4/\(Q++[(g1,c1,B)]).map (fun x=>x.2.2)=(Ps.take (j+1)).map cR from by
    have A:=bal (w:=X1) (o:=.cells #[qS (qP g1) B.length c1] 22);refine ⟨(HX.o.1.bw A).push hgr ?_ (HX.o.2.2.bw A) (by rw [show (g1,c1,B).2.2=B from rfl,HB.o];have:=HEF.o.2;omega),aBj (HX.o.2.1.trans (A.mono HX.o.2.1.size)) hgr (fun q hq=>(HX.o.1.o.lt q hq).1),?_⟩
    .unfold OG;rw [List.length_append,hql,List.flatMap_append,List.flatMap_singleton];exact hown
    .rw [List.map_append,HI.o.2.2,List.take_add_one,HyP.o,List.map_append,HB.o]
     rfl)
   clear hown hgr HX HNW HOW;go_wp2
   go_roundw
   .exact ⟨j+1,_,by omega,by go_num,HF.o⟩
   .simp [intOf];omega
  .have hge:¬ (j:Int)<(pn:Int):=by omega
   have HE:=zh (show ∃ g',av=qP g' from aDi I.o (by omega));have HI:=zh (xA (I.mono hws) (xA ((HST.o wr hb).d) (show Q.map (fun x=>x.2.2)=Ps.map cR by rw [hQ,List.take_of_length_le (by omega)])));clear I hb hQ HST;go_wp2;go_ret;obtain ⟨g',rfl⟩:=HE.o;exact ⟨g',cv,Q,k',Ps,by rw [hql];rfl,by rw [hql];exact HI.o.1,HI.o.2.1,HI.o.2.2,by omega,by omega,pD⟩
theorem aEm (h:Byt zs)(m:Nat):∀ j,0<=(zs.take m).getD j 0/\(zs.take m).getD j 0<=255:=fun j=>by
 rw [List.getD_eq_getElem?_getD];cases e:(zs.take m)[j]? with
 | none=>exact ⟨by simp,by simp⟩
 | some z=>exact h z (List.mem_of_mem_take (List.mem_of_getElem? e))
theorem aM2 {w:World}{a:Option Addr}(h:BS w a n c zs):n≠0->∀ b off,a=some ⟨b,off,none⟩->b<w.heap.size:=by
 intro hn b off e;subst e;exact World.block_lt_of_cell? w _ (h.at 0 (by omega))
theorem aDg (W:qw)(base:Nat)(hb:base<=W.heap.size):OMp (W.alloc (.cells #[] 53)) base (qS (qP W.heap.size) 0 0) [] (fun _=>W.heap.size):=⟨cJ _ _ _ _ _ hb,fun i x hx=>by simp at hx,fun _ _ _ _=>aL,hb,by simp⟩
def L7P (w:qw)(n:Nat)(L:List (PMod×Mb))(e:Ending)(w':qw):Prop:=∃ a cap L' β',e=.returned (qS a n cap)/\OMp w' w.heap.size (qS a n cap) L' β'/\L'.map (fun x=>x.1)=L.map (fun x=>x.1)/\qY w w'
theorem aJt {α:Type}{t:TypeId}{sz:Nat}{f:α->List Value}{w:qw}{xs:List α}(h:OG t sz f w base v xs):OG t sz f w.drew base v xs:=h.bw brf.drew
theorem aCa (g n cap:Nat)(L:List (PMod×Mb))(w:qw)(H:OMq w (qP g) L)(hl:L.length=n)(hn:n<=1048576):
 qC 48 #[qS (qP g) n cap] w (L7P w n L):=by
 obtain ⟨iI,hiI,hI0,hI1,hI2⟩:=info_parts gG;obtain ⟨iB,hiB,hB0,hB1,hB2⟩:=info_parts aDy;obtain ⟨iT,hiT,hiT0,hiT1,hiT2⟩:=info_parts aDw;obtain ⟨iX,hiX,hiX0,hiX1,hiX2⟩:=info_parts aDv;obtain ⟨iM,hiM,hiM0,hiM1,hiM2⟩:=info_parts aHt;have S0:=aDg w w.heap.size aL;have B0:qY w (w.alloc (.cells #[] 53)):=bal;have HS0:=zh (xA S0 B0);have HH:=zh H;clear S0 B0 H;go_enter func48,ntmps48
 go_wp2;go_loopw [3,4] (fun v i wr=>∃ j:Nat,j<=n/\i=qI j/\∃ L' β',OMp wr w.heap.size v L' β'/\L'.map (fun x=>x.1)=(L.take j).map (fun x=>x.1)/\qY w wr) (fun _ i _=>n-(intOf i).toNat)
 .exact ⟨0,xC _,rfl,[],_,HS0.o.1,by simp,HS0.o.2⟩
 .obtain ⟨j,hj,rfl,L',β',O,hL,B⟩:=hrel;have hl':L'.length=j:=by have:=congrArg List.length hL;simp at this;omega
  obtain ⟨av,cv,rfl⟩:=aO O.o;rw [hl'] at O ⊢;generalize wr=W0 at *;clear HS0;by_cases hlt:j<n
  .have hlt':(j:Int)<(n:Int):=by omega
   obtain ⟨⟨P,⟨b1,d1,b2,d2,bq,b3,d3,b5,d5,b6,d6,b7,d7⟩⟩,hx⟩:∃ x,L[j]?=some x:=⟨L[j],xN (by omega)⟩;have HSR:=zh (fun (X:qw) (hX:qY W0 X)=>(HH.o.bw (B.trans (hX.mono B.size))).srcM hx);have HO:=zh (xA O (xA hL B));obtain ⟨⟨s0,s1,s2,s3,s4,s5,s6,s7⟩,_⟩:=HSR.o W0 brf;obtain ⟨w1,hw1⟩:=eqx (W0.alloc (.cells (qM P.nm b1 P.tz.length d1 b2 bq.length d2 b3 P.dz.length d3 P.bss b5 P.rz.length d5 b6 P.ss.length d6 b7 P.es.length d7) 53));have C1:Cpm W0 w1 W0.heap.size (qM P.nm b1 P.tz.length d1 b2 bq.length d2 b3 P.dz.length d3 P.bss b5 P.rz.length d5 b6 P.ss.length d6 b7 P.es.length d7):=by rw [hw1];exact ⟨bal,Blk.new _ _ _,aL⟩
   have b1':qY w1 (w1.alloc (.cells #[] 3)):=bal;obtain ⟨⟨q0,q1,q2,q3,q4,q5,q6,q7⟩,mo,R⟩:=HSR.o _ (C1.b.trans (b1'.mono C1.b.size));have HOW:=zh (cJ 3 1 clI w1 w1.heap.size aL);have HSC:=zh mo.t;have ht:=R.t.1;have hbn:bq.length<=1048576:=by have h1:=R.b.1;rw [<- mo.bls,xH] at h1;exact h1
   have HRR:=zh R;have HC1:=zh C1;have HW1:=zh hw1;have HXX:=zh hx;clear O hL B C1 hw1 b1' mo hx R;go_wp2_with (first|(at_builtin;refine fM rfl _ _ 29 rfl w1.heap.size 3 iI (qI 0) 1 8 underlying29 hiI hI0 hI1 hI2 rfl (by decide) (qS (qP w1.heap.size) 0 0) [] rfl HOW.o b1 P.tz.length d1 P.tz rfl HSC.o (fun _=>rfl) (fun y u hu=>by simp [clI] at hu;subst hu;rfl) (by unfold maxLen;simp;omega) (by simp;omega) (by simp) ?_;intro v' w2 O2 G2;rw [List.nil_append] at O2;obtain ⟨t1,e1,rfl⟩:=aO O2;obtain ⟨k2,C2,R2,T2⟩:=HC1.o.row 1 O2 (by decide) G2;have z1:=k2.cell 1;have zf1:=k2.frozen 1;have kk:=C2.k.alloc (.cells #[] 29);have z2:=kk.cell 2;have zf2:=kk.frozen 2;have HC2:=zh (Cpb.new (v2:=qS b2 bq.length d2) (C2:Cpm W0 _ W0.heap.size (qM P.nm t1 P.tz.length e1 b2 bq.length d2 b3 P.dz.length d3 P.bss b5 P.rz.length d5 b6 P.ss.length d6 b7 P.es.length d7)) (OG.mono R2 HC1.o.b.size));clear kk k2 C2 R2 T2 O2 G2 q0 q1 q2 q3 q4 q5 q6 q7)|rw [<- HW1.o])
   try unfold qY at *
   rw [aG] at HC2;clear s0 s1 s2 s3 s4 s5 s6 s7;go_loopw [7] (fun i wr=>∃ (k:Nat) (a2:qO) (c2:Nat) (bl:List Bk),k<=bq.length/\i=qI k/\bl.map (fun B=>B.2.2.2)=(bq.take k).map (fun B=>B.2.2.2)/\Cpb W0 wr W0.heap.size w2.heap.size t1 e1 P.tz a2 c2 bl (.string P.nm) (qS b3 P.dz.length d3) (qI P.bss) (qS b5 P.rz.length d5) (qS b6 P.ss.length d6) (qS b7 P.es.length d7)) (qf bq.length)
   .exact ⟨0,_,_,[],xC _,rfl,by simp,HC2.o⟩
   .obtain ⟨k,a2,c2,bl,hk,rfl,hbl,C⟩:=hrel;have hbll:bl.length=k:=by have:=congrArg List.length hbl;simp at this;omega
    have hb255:bl.length<=1048576:=by omega
    have HBL:=zh hbll;clear z1 zf1 z2 zf2 HC2 hbll;generalize w2.heap.size=lo at *;by_cases hkl:k<bq.length
    .have hkl':(k:Int)<(bq.length:Int):=by omega
     have hk0:(0:Int)<=(k:Int):=by omega
     have hj0:(0:Int)<=(j:Int):=by omega
     obtain ⟨w5,hw5⟩:=eqx (wr.alloc (.cells #[] 3));have bw5:qY wr w5:=by rw [hw5];exact bal
     have ow5:OG 3 1 clI w5 wr.heap.size (qS (qP wr.heap.size) 0 0) []:=by rw [hw5];exact cJ _ _ _ _ _ aL
     obtain ⟨⟨_,_,r2,_⟩,mo,_⟩:=HSR.o wr C.c.b;have C5:=C.bw bw5;obtain ⟨⟨_,_,p2,_⟩,mo5,R5⟩:=HSR.o w5 C5.c.b;obtain ⟨gb,A,Cc,zs,eb2,hB,p3,oz⟩:=mo5.b k hkl;subst eb2;have p1:=C5.c.k.cell 2;simp only [Array.getElem?_eq_getElem,List.getElem?_toArray,List.getElem?_cons_succ,List.getElem?_cons_zero] at p1;have hzl:zs.length<=1048576:=(R5.b.2 zs (by rw [<- mo5.bls,List.mem_map];exact ⟨_,List.mem_of_getElem? hB,rfl⟩)).1;have HW5:=zh hw5;have HOW5:=zh ow5;have HOZ:=zh oz;have HC:=zh (xA C bw5);have HBB:=zh (xA hB hbl)
     have HP3:=zh (fun (X:qw) (hX:qY W0 X)=>(show X.cell? (qR g (j*8+2))=some (qS (qP gb) bq.length d2)/\X.cell? (qR gb k)=some (qS A zs.length Cc) from by
      obtain ⟨⟨_,_,y2,_⟩,moX,_⟩:=HSR.o X hX;obtain ⟨gb',A',Cc',zs',e',hB',y3,_⟩:=moX.b k hkl;rw [hB] at hB';simp at e' hB';obtain ⟨rfl,_,rfl,rfl⟩:=hB';subst e'
      exact ⟨y2,y3⟩))
     clear hw5 bw5 ow5 mo C5 mo5 R5 oz C hB hbl;go_wp2_with (rw [<- HW5.o])
     have HSZ5:=zh HC.o.2.size
     go_region_law
      (first
        | (refine aBr (by rfl) _ _ 29 (by rfl) wr.heap.size 3 iI (qI 0) 1 8 underlying29 hiI hI0 hI1 hI2 rfl (by decide) (qS (qP wr.heap.size) 0 0) [] (by rfl) (by first|exact HOW5.o|exact aJt HOW5.o) A zs.length Cc zs (by rfl) (by first|exact HOZ.o|exact HOZ.o.bw brf.drew) (fun _=>rfl) (fun y u hu=>by simp [clI] at hu;subst hu;rfl) (by unfold maxLen;simp;omega) (by simp;omega) (by exact HSZ5.o) ?_;intro v' w6 O6 G6;rw [List.nil_append] at O6;obtain ⟨A6,D6,rfl⟩:=aO O6;have hb6:qY wr w6:=(by first|exact vK HC.o.2 HSZ5.o rfl G6|exact vK HC.o.2.drew HSZ5.o rfl G6);have C6:=HC.o.1.bw hb6;obtain ⟨p2',p3'⟩:=HP3.o w6 C6.c.b;have p1':w6.cell? (qR W0.heap.size 2)=some (qS a2 bl.length c2):=C6.c.k.cell 2;have p1a:(w6.alloc (.cells #[qS A6 zs.length D6] 29)).cell? (qR W0.heap.size 2)=some (qS a2 bl.length c2):=(C6.c.k.alloc _).cell 2;have HOW6:=zh (C6.bw (brf.alloc aL (.cells #[qS A6 zs.length D6] 29))).b.head;have HNW6:=zh (aN w6 _ 29 [qS A6 zs.length D6] rfl);have HBK:=zh (fun w4 d hown hgr=>HC.o.1.bank (w4:=w4) (d:=d) (O6.bw (brf.alloc aL (.cells #[qS A6 zs.length D6] 29))) (hb6.trans ((brf.alloc aL (.cells #[qS A6 zs.length D6] 29)).mono hb6.size)) hown hgr);have HSZ6:=zh (C6.bw (brf.alloc aL (.cells #[qS A6 zs.length D6] 29))).lh;clear O6 G6 hb6 C6)
        | (refine step_append_lies _ (by rfl) _ _ 49 (by rfl) lo 29 iB (qS none 0 0) 1 24 underlying49 hiB hB0 hB1 hB2 rfl (by decide) (qS a2 bl.length c2) bl.length (bl.map fun B=>qS B.1 B.2.1 B.2.2.1) (by rfl) HOW6.o (qR w6.heap.size 0) 1 1 [qS A6 zs.length D6] (by rfl) (by rfl) HNW6.o (by intro u hu;simp at hu;subst hu;rfl) (by decide) (by unfold maxLen;omega) (by omega) HSZ6.o _ rfl ?_;intro g4 c4 w4 hown hgr hat hlt4;have HB4:=zh (HBK.o w4 _ hown hgr);have HP5:=zh (HP3.o _ (HB4.o.2.choose_spec.choose_spec.2.c.b));obtain ⟨p24,p34⟩:=HP3.o w4 HB4.o.1.b;have p14:w4.cell? (qR W0.heap.size 2)=some (qS a2 bl.length c2):=HB4.o.1.k.cell 2;have f4:=HB4.o.1.k.frozen 2;clear hown hgr hat))
     all_goals
      clear p1 p1' p1a p14 p2 p2' p24 p3 p3' p34 f4 HOW6 HNW6 HBK HSZ6 HP5;go_wp2
      go_roundw
      .obtain ⟨a',c',ed,CF⟩:=HB4.o.2;exact ⟨k+1,a',c',_,by omega,by go_num,by rw [List.map_append,HBB.o.2,uN HBB.o.1];rfl,CF⟩
      .simp [qf,intOf];omega
    .have hkl':¬ (k:Int)<(bq.length:Int):=by omega
     obtain rfl:k=bq.length:=by omega
     rw [List.take_length] at hbl;have hj0:(0:Int)<=(j:Int):=by omega
     obtain ⟨⟨_,_,r2,r3,_⟩,mo,R⟩:=HSR.o wr C.c.b;have HCA:=zh (aAz b3 P.dz.length d3 P.dz wr mo.d R.d.2 rfl (by have:=R.d.1;omega));have HC:=zh C;have HBB:=zh (show bl.map (fun B=>B.2.2.2)=P.bl by rw [hbl];exact mo.bls);clear C mo R hbl;go_wp2_with fail
     refine HCA.o.mono ?_;rintro e w7 ⟨a3,c3,rfl,o7,k7⟩;obtain ⟨C7,D7,P7,T7,_⟩:=HC.o.row (v3':=qS a3 P.dz.length c3) (aLb o7) k7 (by decide) 3 rfl;have y3:=C7.c.k.cell 3;have yf3:=C7.c.k.frozen 3;obtain ⟨X7,hX7⟩:=eqx (w7.setCell ⟨W0.heap.size,3,none⟩ (qS a3 P.dz.length c3));rw [<- hX7] at D7 P7 T7;obtain ⟨⟨_,_,_,_,_,r5,_⟩,mo7,R7⟩:=HSR.o _ (D7.bw (brf.alloc aL (.cells #[] 3))).c.b;have hrl:=R7.r.1;have hil:=R7.i.1;have hel:=R7.e.1;have HOW7:=zh (cJ 3 1 clI X7 X7.heap.size aL);have HSC7:=zh mo7.r;have HD7:=zh (xA D7 (xA P7 (xM HC.o.c.b.size (Nat.le_refl wr.heap.size))));have HX7:=zh hX7;clear C7 D7 P7 T7 hX7 mo7 R7 o7 k7 r2 r3 HCA
     go_wp2_with (first
      | (at_builtin;refine fM rfl _ _ 29 rfl X7.heap.size 3 iI (qI 0) 1 8 underlying29 hiI hI0 hI1 hI2 rfl (by decide) (qS (qP X7.heap.size) 0 0) [] rfl HOW7.o b5 P.rz.length d5 P.rz rfl HSC7.o (fun _=>rfl) (fun y u hu=>by simp [clI] at hu;first|(subst hu;rfl)|(rcases hu with rfl|rfl|rfl<;>rfl)) (by unfold maxLen;simp;omega) (by simp;omega) (by simp) ?_;intro v' w8 O8 G8;rw [List.nil_append] at O8;obtain ⟨a5,c5,rfl⟩:=aO O8;obtain ⟨C8,D8,P8,T8,_⟩:=HD7.o.1.row (v5':=qS a5 P.rz.length c5) O8 (iV G8) (by decide) 5 rfl;have HAP:=zh (HD7.o.1.apart O8);have y5:=C8.c.k.cell 5;have yf5:=C8.c.k.frozen 5;obtain ⟨X8,hX8⟩:∃ X8,X8=w8.setCell (qR W0.heap.size 5) (qS a5 P.rz.length c5):=⟨_,rfl⟩;rw [<- hX8] at D8 P8 T8;obtain ⟨⟨_,_,_,_,_,_,r6,_⟩,mo8,_⟩:=HSR.o _ (D8.bw (brf.alloc aL (.cells #[] 9))).c.b;have HOW8:=zh (cJ 9 1 clT X8 X8.heap.size aL);have HSC8:=zh mo8.i;have HD8:=zh (xA D8 (xA P8 (fH T8 HD7.o.1.c.k HD7.o.2.1 (by decide))));have HX8:=zh hX8;clear C8 D8 P8 T8 hX8 mo8 O8 G8 r5)
      | (at_builtin;refine fM rfl _ _ 50 rfl X8.heap.size 9 iT (.string ⟨#[]⟩) 1 16 underlying50 hiT hiT0 hiT1 hiT2 rfl (by decide) (qS (qP X8.heap.size) 0 0) [] rfl HOW8.o b6 P.ss.length d6 P.ss rfl HSC8.o (fun _=>rfl) (fun y u hu=>by simp [clT] at hu;first|(subst hu;rfl)|(rcases hu with rfl|rfl|rfl<;>rfl)) (by unfold maxLen;simp;omega) (by simp;omega) (by simp) ?_;intro v' w9 O9 G9;rw [List.nil_append] at O9;obtain ⟨a6,c6,rfl⟩:=aO O9;obtain ⟨C9,D9,P9,T9,_⟩:=HD8.o.1.row (v6':=qS a6 P.ss.length c6) O9 (iV G9) (by decide) 6 rfl;have y6:=C9.c.k.cell 6;have yf6:=C9.c.k.frozen 6;obtain ⟨X9,hX9⟩:∃ X9,X9=w9.setCell (qR W0.heap.size 6) (qS a6 P.ss.length c6):=⟨_,rfl⟩;rw [<- hX9] at D9 P9 T9;obtain ⟨⟨_,_,_,_,_,_,_,r7⟩,mo9,_⟩:=HSR.o _ (D9.bw (brf.alloc aL (.cells #[] 91))).c.b;have HOW9:=zh (cJ 91 3 clX X9 X9.heap.size aL);have HSC9:=zh mo9.e;have HD9:=zh (xA D9 (xA P9 (xA (fH T9 HD8.o.1.c.k HD8.o.2.1 (by decide)) (fH T9 HD8.o.1.c.k HD8.o.2.2 (by decide)))));have HX9:=zh hX9;clear C9 D9 P9 T9 hX9 mo9 O9 G9 r6)
      | (at_builtin;refine fM rfl _ _ 51 rfl X9.heap.size 91 iX _ 3 32 underlying51 hiX hiX0 hiX1 hiX2 rfl (by decide) (qS (qP X9.heap.size) 0 0) [] rfl HOW9.o b7 P.es.length d7 P.es rfl HSC9.o (fun _=>rfl) (fun y u hu=>by simp [clX] at hu;first|(subst hu;rfl)|(rcases hu with rfl|rfl|rfl<;>rfl)) (by unfold maxLen;simp;omega) (by simp;omega) (by simp) ?_;intro v' w10 O10 G10;rw [List.nil_append] at O10;obtain ⟨a7,c7,rfl⟩:=aO O10;obtain ⟨C10,D10,P10,T10,_⟩:=HD9.o.1.row (v7':=qS a7 P.es.length c7) O10 (iV G10) (by decide) 7 rfl;have y7:=C10.c.k.cell 7;have yf7:=C10.c.k.frozen 7;obtain ⟨XX,hXX⟩:∃ XX,XX=w10.setCell (qR W0.heap.size 7) (qS a7 P.es.length c7):=⟨_,rfl⟩;rw [<- hXX] at D10 P10 T10;have HD10:=zh (xA D10 (xA P10 (xA (fH T10 HD9.o.1.c.k HD9.o.2.1 (by decide)) (xA (fH T10 HD9.o.1.c.k HD9.o.2.2.1 (by decide)) (fH T10 HD9.o.1.c.k HD9.o.2.2.2 (by decide))))));obtain ⟨x0,x1,x2,x3,x4,x5,x6,x7⟩:=Blk.eight' D10.c.k;have HXE:=zh hXX;have bXX:qY XX (XX.alloc (.cells (qM P.nm t1 P.tz.length e1 a2 bl.length c2 a3 P.dz.length c3 P.bss a5 P.rz.length c5 a6 P.ss.length c6 a7 P.es.length c7) 53)):=bal;have hsX:=xM HO.o.2.2.size D10.c.b.size;have HOWX:=zh (aJo hl' (HO.o.1.bw (D10.c.b.trans (bXX.mono D10.c.b.size))).o);have HNWX:=zh (aN XX (qM P.nm t1 P.tz.length e1 a2 bl.length c2 a3 P.dz.length c3 P.bss a5 P.rz.length c5 a6 P.ss.length c6 a7 P.es.length c7) 53 (clB (P,(⟨t1,e1,a2,c2,bl,a3,c3,a5,c5,a6,c6,a7,c7⟩:Mb))) rfl);have hwr:=xM HC.o.c.b.size (Nat.le_refl wr.heap.size);have HMO:=zh (HD10.o.1.done HBB.o HRR.o.d.2 HD10.o.2.2.2.2 HC.o.c.b.size HD10.o.2.2.2.1 HD7.o.1.c.b.size HD10.o.2.2.1 HD8.o.1.c.b.size HD10.o.2.1 HD9.o.1.c.b.size HAP.o);have HPU:=zh (fun (v':Value) (w4:qw) hown hgr=>xA (HO.o.1.push (x:=(P,(⟨t1,e1,a2,c2,bl,a3,c3,a5,c5,a6,c6,a7,c7⟩:Mb))) (v':=v') (w4:=w4) hl' HD10.o.1.c.b HMO.o HRR.o bXX hown hgr) (aB2 HO.o.1 HO.o.2.2 (HD10.o.1.c.b.trans (bXX.mono HD10.o.1.c.b.size)) hgr));clear C10 D10 P10 T10 hXX O10 G10 r7 bXX hwr)
      | (at_builtin;refine wpList_append_own _ rfl _ _ 28 rfl w.heap.size 53 iM _ 8 _ underlying28 hiM hiM0 hiM1 hiM2 rfl (by decide) (qS av j cv) j (L'.flatMap clB) rfl HOWX.o (qR XX.heap.size 0) 1 1 (clB (P,(⟨t1,e1,a2,c2,bl,a3,c3,a5,c5,a6,c6,a7,c7⟩:Mb))) rfl rfl HNWX.o (by intro u hu;simp [clB,clH,hdP] at hu;rcases hu with rfl|rfl|rfl|rfl|rfl|rfl|rfl|rfl<;>rfl) (by unfold maxLen;omega) (by omega) (by simp;omega) ?_;intro v' w4 hown hgr _;have HP:=zh (HPU.o v' w4 hown hgr);clear hown hgr HPU HOWX HNWX x0 x1 x2 x3 x4 x5 x6 x7)
      | rw [<- HX7.o]|rw [<- HX8.o]|rw [<- HX9.o]|rw [<- HXE.o])
     go_roundw
     .exact ⟨j+1,by omega,by go_num,_,_,HP.o.1,by rw [List.map_append,HO.o.2.1,uN HXX.o];rfl,HP.o.2⟩
     .simp [qf,intOf];omega
  .have hlt':¬ (j:Int)<(n:Int):=by omega
   obtain rfl:j=n:=by omega
   rw [<- hl,List.take_length] at hL;have HO:=zh (xA O (xA hL B));clear O hL B;go_wp2;go_ret;exact ⟨av,cv,L',β',rfl,HO.o.1,HO.o.2.1,HO.o.2.2⟩
