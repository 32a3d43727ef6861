import Derived.Test.YtcimaholejajpaaGreatF15
import Derived.Test.YtcimaholejajpaaGreatF13
set_option linter.all false
namespace Go.Proofs.YtcimaholejajpaaGreat
open Go.RowKit
open Go.Proofs.Tryz
set_option maxRecDepth 100000
variable {b:Nat}
theorem aIw {w:qw}{off n cap:Nat}{rs:List Rg}(h:RS w (some (qR b off)) n cap rs):∀ j u,(dH rs)[j]?=some u->w.cell? (((qR b off):Addr).add j)=some u:=by
 intro j u hj;have hl:=h.1
 have hj2:j<(dH rs).length:=by
  rcases Nat.lt_or_ge j (dH rs).length with h'|h'
  .exact h'
  .rw [xO h'] at hj;cases hj
 rw [nM] at hj2;have hq:j/6<rs.length:=by omega
 have hr:j%6<6:=Nat.mod_lt _ (by omega);have e:=nN rs (j/6) (j%6) hq hr;rw [show j/6*6+j%6=j by omega,hj] at e;obtain ⟨h1,h2,h3,h4,h5,h6⟩:=h.at (j/6) (by omega);rw [bZ,show off+j=off+j/6*6+j%6 by omega];rw [e];generalize rs.getD (j/6) z6=G at *;generalize j/6=q at *;have c:j%6=0\/j%6=1\/j%6=2\/j%6=3\/j%6=4\/j%6=5:=by omega
 rcases c with c|c|c|c|c|c<;>rw [c]
 .exact h1
 .exact h2
 .exact h3
 .exact h4
 .exact h5
 .exact h6
theorem aFj (rs:List Rg):∀ u∈dH rs,u.oneCell'=true:=by
 intro u hu;simp only [dH,List.mem_flatMap] at hu;obtain ⟨g,_,hg⟩:=hu;exact aJr g u hg
theorem aH3 (xs ys:List Rg):dH (xs++ys)=dH xs++dH ys:=by simp [dH]
abbrev Spn:=Int×Int×Bool×Bool×Bool
def spR (p:Spn):List Rg:=rts p.2.2.1 p.2.2.2.1 p.2.2.2.2 (cvL p.1 p.2.1)
def zSp:Spn:=(0,0,false,false,false)
def At5 (w:qw)(b o:Nat)(p:Spn):Prop:=
 w.cell? (qR b o)=some (qI p.1)/\w.cell? (qR b (o+1))=some (qI p.2.1)/\w.cell? (qR b (o+2))=some (.bool p.2.2.1) /\
 w.cell? (qR b (o+3))=some (.bool p.2.2.2.1)/\w.cell? (qR b (o+4))=some (.bool p.2.2.2.2)
theorem At5.bw {w w':qw}{o:Nat}{p:Spn}(h:At5 w b o p)(hb:qY w w'):At5 w' b o p:=by
 obtain ⟨h1,h2,h3,h4,h5⟩:=h;have hl:b<w.heap.size:=xD w _ h1;unfold At5;rw [hb.cell (p:=(qR b o)) hl,hb.cell (p:=(qR b (o+1))) hl,hb.cell (p:=(qR b (o+2))) hl,hb.cell (p:=(qR b (o+3))) hl,hb.cell (p:=(qR b (o+4))) hl];exact ⟨h1,h2,h3,h4,h5⟩
theorem aC6 (p:Spn):(spR p).length<=8192:=by unfold spR;rw [eV];exact pF _ _
theorem aIs (ss:List Spn):(ss.flatMap spR).length<=8192*ss.length:=by
 induction ss with
 | nil=>simp
 | cons p ss ih=>have:=aC6 p;simp only [xT,xI,List.length_cons];omega
theorem aF3 (ss:List Spn)(k:Nat)(h:k<ss.length):(ss.take (k+1)).flatMap spR=(ss.take k).flatMap spR++spR (ss.getD k zSp):=by
 rw [List.take_add_one,xU];congr 1;simp [xB,h]
set_option maxHeartbeats 2000000 in
theorem aCk (b off n cap:Nat)(ss:List Spn)(w:qw)(hn:ss.length=n)(hn4:n<=4)(hw:∀ i,i<n->wfi (ss.getD i zSp).1/\wfi (ss.getD i zSp).2.1)(h:∀ i,i<n->At5 w b (off+i*5) (ss.getD i zSp)):
 qC 100 #[qS (some (qR b off)) n cap] w fun e w'=>∃ A m cap',e=.returned (qS A m cap')/\m=(ss.flatMap spR).length/\ORg w' w.heap.size (qS A m cap') (ss.flatMap spR)/\qY w w':=by
 obtain ⟨i0,hi,hz0,hz1,hz2⟩:=info_parts aDx;have HA:=zh h;have HW:=zh hw;have HN:=zh hn;clear h hw hn;go_enter func100,ntmps100
 go_wp2_with fail
 go_loopw [3,8] (fun o i wr=>∃ (A:qO) (m cap' k:Nat),k<=n/\o=qS A m cap'/\i=qI k/\ORg wr w.heap.size (qS A m cap') ((ss.take k).flatMap spR)/\qY w wr) (fun _ i _=>n-(intOf i).toNat)
 .exact ⟨none,0,0,0,xC _,rfl,rfl,oY _ _,brf⟩
 .obtain ⟨A,m,cap',k,hk,rfl,rfl,hO,hB⟩:=hrel;by_cases hlt:k<n
  .have hlt':(k:Int)<(n:Int):=by omega
   obtain ⟨p0,p1,p2,p3,p4⟩:=(HA.o k hlt).bw hB;have HT:=zh (aF3 ss k (by rw [HN.o];exact hlt));have hww:=HW.o k hlt;generalize ss.getD k zSp=G at *;obtain ⟨f,s,r,x,y⟩:=G;obtain ⟨V,hV⟩:=eqx (wr.alloc (.cells #[qI f,qI s,.bool r,.bool x,.bool y] 159));have KV:Blk V wr.heap.size #[qI f,qI s,.bool r,.bool x,.bool y] 159:=by rw [hV];exact Blk.new _ _ _
   have BV:qY wr V:=by rw [hV];exact bal
   have e0:=KV.e0;have e1:=KV.e1;have e2:=KV.e2;have e3:=KV.e3;have e4:=KV.e4;have HR:=zh (aAb f s r x y V hww.1 hww.2);have HO:=zh (fF (aJ BV) hO (fun _ _ h=>h));have HML:=zh (eU hO).1;have HMX:=zh (show m<=32768 by have h1:=aIs (ss.take k);rw [(eU hO).1,List.length_take,HN.o] at h1;omega);have HLE:=zh (aDc hO);have HBV:=zh (hB.trans (BV.mono hB.size));have HSV:Zh (w.heap.size<=V.heap.size):=xM hB.size BV.size;have HV:=zh hV;have HGE:=zh (fun j hj=>rB hO j hj);clear hV KV BV hO hB hww;go_wp2_with (rw [<- HV.o])
   refine HR.o.mono ?_;rintro e w3 ⟨X,q,qc,rfl,hX,hnil,hB3⟩;have HL3:=zh (show q<=8192 by have h1:=aC6 (f,s,r,x,y);have h2:=hX.1;unfold spR at h1;simp only at h1;omega);have HO3:=zh (fF (aJ hB3) HO.o (fun _ _ h=>h));have HB4:=zh (HBV.o.trans (hB3.mono HSV.o));have HSZ:Zh (w.heap.size<=w3.heap.size):=xM HSV.o hB3.size;have HX:=zh hX;have HNIL:=zh hnil;clear hX hnil hB3;have HOW:=zh (show w3.ownsRow w.heap.size 177 6 (qS A m cap') m (dH ((ss.take k).flatMap spR)) from by have:=HO3.o.1;rwa [HML.o] at this);have HSP:Zh (spR (f,s,r,x,y)=rts r x y (cvL f s)):=rfl;have HWF:=zh HX.o.2.2.1;obtain ⟨M,hM⟩:=eqx (rts r x y (cvL f s));rw [<- hM] at HX HSP HWF;have HLEN:=zh (show (dH M).length=q*6 by rw [nM,HX.o.1]);have HONE:=zh (aFj M);clear hM
   match X with
   | none=>
     obtain ⟨rfl,rfl⟩:=HNIL.o rfl;go_wp2_with (at_builtin;refine wpList_append_own_none rfl _ _ 103 rfl w.heap.size 177 i0 6 underlying103 hi (qS A m cap') m (dH ((ss.take k).flatMap spR)) rfl HOW.o rfl ?_)
     refine ⟨⟨A,m,cap',k+1,by omega,rfl,by go_num,?_,HB4.o⟩,by simp [intOf];omega⟩;rw [HT.o,HSP.o,xE HX.o.1,List.append_nil];exact HO3.o
   | some ad=>
     have HNEWS:=zh (show ∀ j u,(dH M)[j]?=some u->w3.cell? (ad.add j)=some u from by
      by_cases hq:q=0
      .have e:M=[]:=xE (by rw [HX.o.1];exact hq);rw [e];intro j u hj;simp [dH] at hj
      .obtain ⟨b',off',he⟩:=HX.o.some hq;injection he with he
       subst he
       exact aIw HX.o)
     go_wp2_with (at_builtin;refine wpList_append_own _ rfl _ _ 103 rfl w.heap.size 177 i0 (.agg #[qI 0,qI 0,qI 0,.bool false,.bool false,.bool false]) 6 32 underlying103 hi hz0 hz1 hz2 rfl (by decide) (qS A m cap') m (dH ((ss.take k).flatMap spR)) rfl HOW.o ad q qc (dH M) rfl HLEN.o HNEWS.o HONE.o (by have:=HMX.o;have:=HL3.o;unfold maxLen;omega) (by have:=HMX.o;have:=HL3.o;omega) HSZ.o ?_;intro v' w4 hown4 hgr4 _;have HP:=zh (xA hown4 hgr4);clear hown4 hgr4;obtain ⟨A2,cap2,he⟩:=lT HP.o.1;subst he)
     refine ⟨⟨A2,m+q,cap2,k+1,by omega,rfl,by go_num,?_,aI HB4.o (iQ HP.o.2) (fun j hj=>HGE.o j hj) HSZ.o⟩,by simp [intOf];omega⟩;rw [HT.o,HSP.o];refine ⟨?_,fun y hy=>?_⟩
     .rw [xI,HML.o,HX.o.1,aH3];exact HP.o.1
     .rcases List.mem_append.1 hy with hy|hy
      .exact HO3.o.2 y hy
      .exact HWF.o y hy
  .have HE:=zh (show k=n by omega);have HF:=zh (xA hO hB);clear hO hB;go_wp2;go_ret;have h1:=HF.o.1;rw [xG (by rw [HN.o,HE.o];exact aL)] at h1;exact ⟨A,m,cap',rfl,(eU h1).1.symm,h1,HF.o.2⟩
