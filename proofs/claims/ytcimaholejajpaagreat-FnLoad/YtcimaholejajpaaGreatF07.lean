import Derived.Test.YtcimaholejajpaaGreatF05
import Derived.Test.YtcimaholejajpaaGreatF06
set_option linter.all false
set_option maxHeartbeats 20000000
namespace Go.Proofs.YtcimaholejajpaaGreat
open Go.RowKit
open Go.Proofs.Tryz
set_option maxRecDepth 100000
variable {W W' w:World}{X out:List Int}{a:Act}{base c g m n q:Nat}{cs mc:Array Value}{d fx k rx s:Int}{f:Nat->TB}{o:Oper}{ps:List PMod}
theorem qN (g:Nat)(x:Int)(a:qO)(n cap:Nat)(w:qw)(h:Blk w g #[qI x,.func (.func 94) #[] #[]] 153)(hx0:0<=x)(hx1:x<=1000000)(hn:n<=65535):
 qC 96 #[.pointer (qP g),qS a n cap] w fun e w'=>e=.returned (qI x)/\Blk w' g #[qI (x+rnd (4*(n:Int))),.func (.func 94) #[] #[]] 153/\Turn (fun j=>j=g) w w':=by
 have c0:=h.e0;have c1:=h.e1;have f0:=h.frozen 0;have rR:=bA (x:=4*(n:Int));obtain ⟨RR,hRR⟩:=eqx (rnd (4*(n:Int)));have HW:=zh (fun W=>kK a n cap W (by omega));rw [<- hRR] at rR HW ⊢;have hw:IntKind.i64.wrap (x+RR)=x+RR:=bC _ (by omega) (by omega);have HF:Zh (Blk ((w.setCell (qR g 0) (qI (x+RR))).drew) g #[qI (x+RR),.func (.func 94) #[] #[]] 153/\Turn (fun j=>j=g) w ((w.setCell (qR g 0) (qI (x+RR))).drew)):=⟨h.set 0 (qI (x+RR)),lK (aC w g 0 (qI (x+RR)))⟩;clear h hRR;go_enter func96,ntmps96
 go_wp2_with fail
 go_region_law (first
  | (go_simp;go_at_call 94;refine (HW.o _).mono ?_;rintro e wz ⟨rfl,rfl⟩))
 all_goals
  go_wp2;go_ret;exact ⟨rfl,HF.o.1,HF.o.2⟩
theorem lD (g:Nat)(x v:Int)(w:qw)(h:Blk w g #[qI x,.func (.func 95) #[] #[]] 155)(hx0:0<=x:=by omega)(hx1:x<=1000000:=by omega)(hv0:0<=v:=by omega)(hv1:v<=1000000:=by omega):
 qC 98 #[.pointer (qP g),qI v] w fun e w'=>e=.returned (qI x)/\Blk w' g #[qI (x+rnd v),.func (.func 95) #[] #[]] 155/\Turn (fun j=>j=g) w w':=by
 have c0:=h.e0;have c1:=h.e1;have f0:=h.frozen 0;have rR:=bA hv0;obtain ⟨RR,hRR⟩:=eqx (rnd v);have HW:=zh (fun W=>gB v W hv0);rw [<- hRR] at rR HW ⊢;have hw:IntKind.i64.wrap (x+RR)=x+RR:=bC _ (by omega) (by omega);have HF:Zh (Blk ((w.setCell (qR g 0) (qI (x+RR))).drew) g #[qI (x+RR),.func (.func 95) #[] #[]] 155/\Turn (fun j=>j=g) w ((w.setCell (qR g 0) (qI (x+RR))).drew)):=⟨h.set 0 (qI (x+RR)),lK (aC w g 0 (qI (x+RR)))⟩;clear h hRR;go_enter func98,ntmps98
 go_wp2_with fail
 go_region_law (first
  | (go_simp;go_at_call 95;refine (HW.o _).mono ?_;rintro e wz ⟨rfl,rfl⟩))
 all_goals
  go_wp2;go_ret;exact ⟨rfl,HF.o.1,HF.o.2⟩
def bkx (P:PMod)(x:Int)(k:Nat):List Int:=(List.range k).map fun j=>x+cB P j
theorem kG (P:PMod)(x:Int)(k:Nat):(bkx P x k).length=k:=by simp [bkx]
theorem aIe (P:PMod)(x:Int)(k:Nat):bkx P x (k+1)=bkx P x k++[x+cB P k]:=by simp [bkx,List.range_succ]
theorem wH (g:Nat)(x:Int)(P:PMod)(ba:qO)(bc:Nat)(bl:List Bk)(w0 w:qw)(h:Blk w g #[qI x,.func (.func 94) #[] #[]] 153)(hP:bI P=0)(hx0:0<=x)(hx1:x<=900000)(hB:qY w0 w)(hg:w0.heap.size<=g)(hb:BKS w0 ba P.bl.length bc bl)(hlen:∀ j,j<P.bl.length->(bl.getD j zB).2.1=(P.bl.getD j []).length):
 qC 97 #[.pointer (qP g),qS ba P.bl.length bc] w fun e w'=>∃ a' c',e=.returned (qS a' P.bl.length c')/\OG 3 1 clI w' w.heap.size (qS a' P.bl.length c') (bkx P x P.bl.length)/\Blk w' g #[qI (x+cB P P.bl.length),.func (.func 94) #[] #[]] 153/\Turn (fun j=>j=g) w w':=by
 obtain ⟨iI,hiI,hz0,hz1,hz2⟩:=info_parts gG;obtain ⟨_,_,_,vb,_,_,_,vbk⟩:=bS hP;have HFS:=zh (fun k hk=>cL hP k hk);have HBB:=zh (fun (W:qw) (t:Turn (fun j=>j=g) w W)=>hb.bw (aI hB t (fun j hj=>by have e:j=g:=hj;omega) hB.size));have HLEN:=zh hlen;have hgl:=h.lt;have HH:=zh h;clear h hb hlen hB hP;go_enter func97,ntmps97
 go_wp2;go_loopw [5,10] (fun v i wr=>∃ (q:Nat) (a':qO) (c':Nat),q<=P.bl.length/\i=qI q/\v=qS a' q c'/\OG 3 1 clI wr w.heap.size (qS a' q c') (bkx P x q)/\Blk wr g #[qI (x+cB P q),.func (.func 94) #[] #[]] 153/\Turn (fun j=>j=g) w wr) (fun _ i _=>P.bl.length-(intOf i).toNat)
 .exact ⟨0,none,0,xC _,rfl,rfl,cE _ _ _ _ _,by have:=HH.o;rw [show x+cB P 0=x by simp [cB]];exact this,Turn.refl _ _⟩
 .obtain ⟨q,a',c',hq,rfl,rfl,O,B,T⟩:=hrel;by_cases hlt:q<P.bl.length
  .have hlt':(q:Int)<(P.bl.length:Int):=by omega
   obtain ⟨_,_,hcb,_,_⟩:=HBB.o wr T;obtain ⟨b2,off2,rfl,hc⟩:=hcb (by omega);have cb:=hc q hlt;rw [HLEN.o q hlt] at cb;have hLq:=vbk q hlt;obtain ⟨LQ,hLQ⟩:=eqx ((P.bl.getD q []).length);rw [<- hLQ] at cb hLq;have rq:=HFS.o q (by omega);have HFE:=zh (show x+cB P q+rnd (4*(LQ:Int))=x+cB P (q+1) by rw [hLQ];show _=x+(cB P q+rnd (4*((P.bl.getD q []).length:Int)));omega);have HSU:=zh (aIe P x q);obtain ⟨xq,hxq⟩:=eqx (x+cB P q);rw [<- hxq] at HFE HSU B;have rxq:0<=xq/\xq<=1000000:=by omega
   generalize bl.getD q zB=bq at cb;obtain ⟨bq1,bq2,bq3,bq4⟩:=bq;dsimp only at cb;have HPL:=zh (qN g xq bq1 LQ bq3 wr B (by omega) (by omega) (by omega));have HQ:=zh (xA O T);clear hcb hc hLQ hxq O B T;go_wp2_with fail
   refine HPL.o.mono ?_;rintro e w1 ⟨rfl,B1,T1⟩;obtain ⟨O,T⟩:=HQ.o;have O1:=O.turn T1 (fun j hj=>by have e:j=g:=hj;omega);have T2:=T.trans T1;have al:qY w1 (w1.alloc (.cells #[qI xq] 3)):=bal;have HOW:=zh (show (w1.alloc (.cells #[qI xq] 3)).ownsRow w.heap.size 3 1 (qS a' q c') q ((bkx P x q).flatMap clI) by have:=O1.bw al;unfold OG at this;rw [kG] at this;exact this);have hs1:=T2.size;have HR:=zh (xA (O1.bw al) (xA (B1.bw al) (T2.trans (aJ al))));clear O T O1 T2 al B1 T1 HPL HQ cb;go_wp2_with (at_builtin;refine wpList_append_own _ rfl _ _ 29 rfl w.heap.size 3 iI (qI 0) 1 8 underlying29 hiI hz0 hz1 hz2 rfl (by decide) (qS a' q c') q ((bkx P x q).flatMap clI) rfl HOW.o (qR w1.heap.size 0) 1 1 (clI xq) rfl rfl (aN w1 _ _ (clI xq) rfl) (by intro u hu;simp [clI] at hu;subst hu;rfl) (by unfold maxLen;omega) (by omega) (by simp;omega) ?_;intro v' w4 hown hgr _)
   obtain ⟨O1,B1,T1⟩:=HR.o;have hrow:∀ j,(qS a' q c').ownBlock=some j->w.heap.size<=j:=fun j hj=>(O1.lt j hj).1
   have O4:OG 3 1 clI w4 w.heap.size v' (bkx P x (q+1)):=by
    unfold OG;rw [kG,HSU.o,xU,xX];exact hown
   have B4:=dV B1 hgr (fun e=>by have:=hrow _ e.symm;omega);have T4:=bO T1 hgr hrow;obtain ⟨a4,c4,rfl⟩:=aO O4;rw [kG] at O4;have HX:=zh (xA O4 (xA B4 T4));have HL:=zh (kG P x (q+1));clear O1 B1 T1 hrow O4 B4 T4 hown hgr HR HOW
   go_roundw
   .exact ⟨q+1,a4,c4,by omega,by go_num,by rw [HL.o],HX.o.1,by rw [<- HFE.o];exact HX.o.2.1,HX.o.2.2⟩
   .simp [intOf];omega
  .have hlt':¬ (q:Int)<(P.bl.length:Int):=by omega
   have e:q=P.bl.length:=by omega
   rw [e] at O B;have HX:=zh (xA O (xA B T));have HE:=zh e;clear O B T e;go_wp2;go_ret;exact ⟨a',c',by rw [<- HE.o];rfl,HX.o.1,HX.o.2.1,HX.o.2.2⟩
structure Tf (w:qw)(base g n:Nat)(f:Nat->TB):Prop where
 head:∃ cs,Blk w g cs 98/\cs.size=n/\∀ i,i<n->cs[i]?=some (svT (f i))
 rows:∀ i,i<n->OG 106 3 clG w base (svT (f i)) (f i).1
 apart:∀ i j,i<n->j<n->i≠j->∀ k,(svT (f i)).ownBlock=some k->(svT (f j)).ownBlock≠some k
theorem Tf.bw {w w':qw}(h:Tf w base g n f)(hb:qY w w'):Tf w' base g n f:=
 ⟨by obtain ⟨cs,h1,h2,h3⟩:=h.head;exact ⟨cs,h1.bw hb,h2,h3⟩,fun i hi=>(h.rows i hi).bw hb,h.apart⟩
theorem Tf.cell {w:qw}(h:Tf w base g n f)(i:Nat)(hi:i<n):w.cell? (qR g i)=some (svT (f i))/\w.frozen? (qR g i)=false:=by
 obtain ⟨cs,h1,h2,h3⟩:=h.head;exact ⟨(h1.cell i).trans (h3 i hi),h1.frozen i⟩
theorem Tf.lt {w:qw}(h:Tf w base g n f):g<w.heap.size/\∀ i,i<n->∀ k,(svT (f i)).ownBlock=some k->base<=k/\k<w.heap.size:=by
 obtain ⟨cs,h1,_⟩:=h.head;exact ⟨h1.lt,fun i hi=>(h.rows i hi).lt⟩
theorem Tf.update {W W':qw}{x:TB}{g4 c4:Nat}(h:Tf W base g n f)(hm:m<n)(hg:W.grownBy W' (svT (f m)).ownBlock)(hx:OG 106 3 clG W' base (svT x) x.1)(hs:svT x=qS (qP g4) x.1.length c4)(hat:(svT (f m)).ownBlock=some g4\/g4=W.heap.size):Tf (W'.setCell (qR g m) (svT x)) base g n (fun i=>if i=m then x else f i):=by
 obtain ⟨cs,h1,h2,h3⟩:=h.head;have hk:∀ k,(svT (f m)).ownBlock=some k->k≠g:=fun k hk e=>by subst e;exact aP (h.rows m hm) hk h1 (by decide)
 have hb:Blk W' g cs 98:=dV h1 hg (fun e=>hk g e.symm rfl);have tx:=aC W' g m (svT x)
 have hng:∀ (u:Value) (ys:List Tg),OG 106 3 clG W' base u ys->∀ k,u.ownBlock=some k->¬ (fun j=>j=g) k:=fun u ys ho k hk' e=>by
  have e':k=g:=e;subst e';exact aP ho hk' hb (by decide)
 refine ⟨⟨cs.setIfInBounds m (svT x),hb.set m (svT x),by simp [h2],fun i hi=>?_⟩,fun i hi=>?_,fun i j hi hj hij k hk1=>?_⟩
 .by_cases e:i=m
  .subst e;simp [h2,hi]
  .simp only [e,if_false];rw [Array.getElem?_setIfInBounds_ne (fun e'=>e e'.symm)];exact h3 i hi
 .by_cases e:i=m
  .simp only [e,if_true];exact hx.kept tx (hng _ _ hx)
  .simp only [e,if_false];have o:=(h.rows i hi).kept' hg (fun k hk' e'=>h.apart i m hi hm e k hk' e');exact o.kept tx (hng _ _ o)
 .have hx4:(svT x).ownBlock=some g4:=by rw [hs];rfl
  by_cases e1:i=m
  .have e2:¬ j=m:=fun e=>hij (e1.trans e.symm);simp only [e1,e2,if_true,if_false] at hk1 ⊢;rw [hx4] at hk1;simp at hk1;subst hk1;rcases hat with h5|h5
   .exact fun e=>h.apart m j hm hj (fun e'=>e2 e'.symm) g4 h5 e
   .exact fun e=>by have:=(h.lt.2 j hj g4 e).2;omega
  .by_cases e2:j=m
   .simp only [e1,e2,if_true,if_false] at hk1 ⊢;rw [hx4];intro e;simp at e;subst e;rcases hat with h5|h5
    .exact h.apart i m hi hm e1 g4 hk1 h5
    .have:=(h.lt.2 i hi g4 hk1).2;omega
   .simp only [e1,e2,if_false] at hk1 ⊢;exact h.apart i j hi hj hij k hk1
theorem aE6 {w:qw}(h:w.ownsRow base 98 1 (qS (qP g) n n) n (madeCells (Value.cells (qS none 0 0)) (n*1)).toList)(lo:Nat):Tf w lo g n (fun _=>([],none,0)):=by
 obtain ⟨hl,h|⟨g',cap,cur,hv,hb,hh,h1,h2,h3,h4⟩⟩:=h
 .simp at h
 .simp at hv;obtain ⟨rfl,rfl⟩:=hv
  have e:cur.toList=(madeCells (Value.cells (qS none 0 0)) (n*1)).toList:=by
   rw [<- h4,xG (by simp [h3])]
  have e2:cur=madeCells (Value.cells (qS none 0 0)) (n*1):=Array.toList_inj.1 e;refine ⟨⟨cur,hh,by simpa using h3,fun i hi=>?_⟩,fun i hi=>cE _ _ _ _ _,fun i j _ _ _ k hk=>by simp [svT,Value.ownBlock] at hk⟩;rw [e2];simp [madeCells,Value.cells,svT,hi,Nat.mod_one]
theorem Tf.otg {w:qw}(h:Tf w base g n f)(hg:base<=g)(hn:n<=maxLen)(hc:c=n):OTg w base base (.slice (qP g) ((List.range n).map f).length c) ((List.range n).map f):=by
 subst hc;obtain ⟨cs,h1,h2,h3⟩:=h.head;refine ⟨⟨?_,.inr ⟨g,c,cs,by simp,hg,h1,by simp,hn,by simpa using h2,?_⟩⟩,fun x hx=>?_,?_⟩
 .rw [show ((List.range c).map f).flatMap zF=(List.range c).map (fun i=>svT (f i)) by rw [List.flatMap_map];exact dN _ _];simp
 .apply List.ext_getElem?;intro i;rw [show ((List.range c).map f).flatMap zF=(List.range c).map (fun i=>svT (f i)) by rw [List.flatMap_map];exact dN _ _];by_cases hi:i<c
  .rw [List.getElem?_take,if_pos (by simpa using hi),Array.getElem?_toList,h3 i hi];simp [hi]
  .rw [xO (by simp;omega),xO (by simp;omega)]
 .simp at hx;obtain ⟨i,hi,rfl⟩:=hx;exact h.rows i hi
 .rw [List.pairwise_iff_getElem];intro i j hi hj hij k hk;simp at hi hj hk ⊢;exact h.apart i j hi hj (by omega) k hk
theorem tO (a:qO)(n cap:Nat)(ms:List Md)(w:qw)(h:MSD w a n cap ms)(hv:fV (aF ms))(hn:n<=4):
 qC 53 #[.slice a n cap] w fun e w'=>qY w w'/\((¬ kI (aF ms)/\∃ v,e=.returned (.tuple #[v,.bool false]))\/(kI (aF ms)/\∃ f,e=.returned (.tuple #[.slice (some (qR w.heap.size 0)) n n,.bool true])/\Tf w' w.heap.size w.heap.size n f/\∀ i,i<n->(f i).1=tgs (aF ms) ((aF ms).getD i zP))):=by
 obtain ⟨iT,hiT,hzT0,hzT1,hzT2⟩:=info_parts aHs;obtain ⟨iG,hiG,hzG0,hzG1,hzG2⟩:=info_parts aLl;have hl:=h.s.1;have hpl:(aF ms).length=n:=by rw [bQ,hl]
 have HH:=zh h;have HVL:=zh hv;clear h hv;go_enter func53,ntmps53
 go_wp2_with (at_make;refine wpList_make_full _ rfl _ _ 62 rfl w.heap.size 98 iT (.slice none 0 0) 1 underlying62 hiT hzT0 hzT1 .i64 .i64 _ _ n rfl rfl rfl rfl (by rw [hzT2];omega) (by unfold maxLen;omega) aL ?_;intro w1 hown hgr)
 have T0:=aE6 hown w.heap.size;have B0:=jN hgr;have HT0:=zh (xA T0 B0);clear hown hgr T0 B0;go_loopw [16] (fun i wr=>∃ (m:Nat) (f:Nat->TB),m<=n/\i=.int .i64 m/\Tf wr w.heap.size w.heap.size n f/\(∀ i,i<n->(f i).1=if i<m then tgs (aF ms) ((aF ms).getD i zP) else [])/\(∀ j,j<m->tN (aF ms) ((aF ms).getD j zP))/\qY w wr) (qf n)
 .exact ⟨0,fun _=>([],none,0),xC _,rfl,HT0.o.1,fun i hi=>by simp,fun j hj=>absurd hj (by omega),HT0.o.2⟩
 .clear HT0;obtain ⟨m,f,hm,rfl,F,hf,hk,B⟩:=hrel;by_cases hlt:m<n
  .have hlt':(m:Int)<(n:Int):=by omega
   have H:=HH.o.bw B;obtain ⟨b,off,rfl,q0,q1,q2,q3,q4,q5,q6,q7⟩:=H.s.at m hlt;have hmd:=H.d m hlt;have hvm:=HVL.o m (by omega);obtain ⟨P,hP⟩:=eqx ((aF ms).getD m zP);have hPM:P=(ms.getD m zMd).pm:=hP.trans (cD);rw [<- hP] at hvm;have vi:=(bS hvm).2.1;have eI:(ms.getD m zMd).im=P.ss.length:=by rw [hPM];exact hmd.i.1.symm
   have eS:(ms.getD m zMd).ss=P.ss:=by rw [hPM];rfl
   have HMI:=zh (fun (W:qw) (hb:qY w W)=>(HH.o.d m hlt).i.bw hb);rw [eI] at q6;rw [eI,eS] at HMI;have HP:=zh hP;have HB:=zh (xA B (xA F (xA hf hk)));generalize ms.getD m zMd=M at *;generalize M.ia=ia at *;have al:qY wr (wr.alloc (.cells (qM M.nm M.ta M.tn M.tc M.ba M.bn M.bc M.da M.dn M.dc M.bss M.ra M.rn M.rc ia P.ss.length M.ic M.ea M.en M.ec) 53)):=bal;obtain ⟨g0,g1,g2,g3,g4,g5,g6,g7⟩:=(Blk.new wr (qM M.nm M.ta M.tn M.tc M.ba M.bn M.bc M.da M.dn M.dc M.bss M.ra M.rn M.rc ia P.ss.length M.ic M.ea M.en M.ec) 53).eight;have HAL:=zh (xA al (F.bw al));clear B H hmd hP hPM eI eS al hvm F hf hk;generalize wr=wo at *;go_wp2_with fail
   go_loopw [24] (fun i wx=>∃ (q:Nat) (f:Nat->TB),q<=P.ss.length/\i=.int .i64 q/\Tf wx w.heap.size w.heap.size n f/\(∀ i,i<n->(f i).1=if i<m then tgs (aF ms) ((aF ms).getD i zP) else if i=m then tgN (aF ms) P q else [])/\(∀ j,j<q->(gM (aF ms) (P.ss.getD j zS)).isSome=true)/\Turn (fun j=>w.heap.size<=j) wo wx) (qf P.ss.length)
   .exact ⟨0,f,xC _,rfl,HAL.o.2,fun i hi=>by
    rw [HB.o.2.2.1 i hi];by_cases e:i<m
    .simp [e]
    .by_cases e2:i=m
     .simp [e2,tgN]
     .simp [e,e2],fun j hj=>absurd hj (by omega),aJ HAL.o.1⟩
   .obtain ⟨q,f',hq,rfl,F,hf,hk,T⟩:=hrel;have B:=aI HB.o.1 T (fun j hj=>hj) HB.o.1.size;by_cases hlt2:q<P.ss.length
    .have hlt2':(q:Int)<(P.ss.length:Int):=by omega
     obtain ⟨hsl,_,hsz,hcs,_⟩:=HMI.o wr B;obtain ⟨b2,off2,rfl,hc⟩:=hcs (by omega);have c0:=hc q hlt2;have hss:(P.ss.getD q zS).size<=1048576:=hsz _ (by simp [xB,hlt2]);have HR:=zh ((HH.o.bw B).resI HVL.o hn (P.ss.getD q zS) hss);have HTS:=zh (fun t (h:gM (aF ms) (P.ss.getD q zS)=some t)=>zV (ps:=aF ms) (P:=P) q h);have HBAD:=zh (fun (h:gM (aF ms) (P.ss.getD q zS)=none)=>(show ¬ kI (aF ms) from fun hi=>by have:=hi m (by omega) q (by rw [<- HP.o];exact hlt2);rw [<- HP.o,h] at this;cases this))
     have HGO:=zh (fun t (h:gM (aF ms) (P.ss.getD q zS)=some t)=>(show ∀ j,j<q+1->(gM (aF ms) (P.ss.getD j zS)).isSome=true from fun j hj=>by
      by_cases e:j=q
      .subst e;rw [h];rfl
      .exact hk j (by omega)))
     have hX:(f' m).1=tgN (aF ms) P q:=by rw [hf m hlt,if_neg (by omega),if_pos rfl]
     have hsv:svT (f' m)=.slice (f' m).2.1 q (f' m).2.2:=by unfold svT;rw [hX,fY]
     have HQ:=zh (xA F (xA hf (xA T B)));have hgw:=HB.o.1.size;have hTs:=T.size;generalize P.ss.getD q zS=str at *;clear F hk T B hc hsz hcs;go_wp2_with fail
     refine HR.o.mono ?_;rintro e w1 ⟨rfl,hb1⟩;obtain ⟨F,hf,T,B⟩:=HQ.o;have B1:=B.trans (hb1.mono B.size);cases ho:gM (aF ms) str with
     | none=>
       have HF:=zh (xA (B1.trans (((Below.refl _ w1).alloc aL (.cells (qT 0 0 0) 106)).mono B1.size)) (HBAD.o ho));clear F hf T B hb1 B1 HQ HR HTS HBAD HGO c0 hX hsv;unfold tgV;go_wp2
       go_ret2
       exact ⟨HF.o.1,.inl ⟨HF.o.2,_,rfl⟩⟩
     | some t=>
       obtain ⟨t1,t2,t3⟩:=t;have al1:qY w1 (w1.alloc (.cells (qT t1 t2 t3) 106)):=bal;have hs1:(w1.alloc (.cells (qT t1 t2 t3) 106)).heap.size=w1.heap.size+1:=by simp
       have k1:=Blk.new w1 (qT t1 t2 t3) 106;have F1:=(F.bw hb1).bw al1;have T1:=(T.trans (aJ hb1)).trans (aJ al1);have HT2:=zh (HTS.o _ ho);have HG2:=zh (HGO.o _ ho);obtain ⟨x0,x1,x2,_⟩:=k1.three;generalize hW1:w1.alloc (.cells (qT t1 t2 t3) 106)=W1 at *;have al2:qY W1 (W1.alloc (.cells (qT t1 t2 t3) 106)):=bal;have F2a:=F1.bw al2;have F2:Tf (W1.alloc (.cells (qT t1 t2 t3) 106)).drew w.heap.size w.heap.size n f':=⟨F2a.head,F2a.rows,F2a.apart⟩;have HCN:=zh (show ∀ j u,(clG (t1,t2,t3))[j]?=some u->(W1.alloc (.cells (qT t1 t2 t3) 106)).drew.cell? (((qR (w1.heap.size+1) 0):Addr).add j)=some u by have:=aN W1 _ 106 (clG (t1,t2,t3)) rfl;rw [hs1] at this;exact this);obtain ⟨p3,f3⟩:=F2a.cell m hlt;rw [hsv] at p3;obtain ⟨p1,f1⟩:=F1.cell m hlt;obtain ⟨p2,f2⟩:=F2.cell m hlt;have hsz1:=hb1.size;rw [hsv] at p1 p2;obtain ⟨A,hA⟩:=eqx ((f' m).2.1);obtain ⟨C,hC⟩:=eqx ((f' m).2.2);rw [<- hA,<- hC] at p1 p2 p3 hsv;have HOW:=zh (show (W1.alloc (.cells (qT t1 t2 t3) 106)).drew.ownsRow w.heap.size 106 3 (.slice A q C) q ((tgN (aF ms) P q).flatMap clG) by have:=F2.rows m hlt;unfold OG at this;rw [hsv,hX,fY] at this;exact this)
       have HHD:=zh (fun (w4:qw) (hgr:(W1.alloc (.cells (qT t1 t2 t3) 106)).drew.grownBy w4 (Value.slice A q C).ownBlock)=>(show w4.cell? (qR w.heap.size m)=some (.slice A q C)/\w4.frozen? (qR w.heap.size m)=false from by
        obtain ⟨cs,hc1,hc2,hc3⟩:=F2.head;have hb4:=dV hc1 hgr (fun e=>by have:=F2.rows m hlt;rw [hsv] at this;exact aP this e.symm hc1 (by decide))
        exact ⟨(hb4.cell m).trans ((hc3 m hlt).trans (by rw [hsv])),hb4.frozen m⟩))
       have HX:=zh (xA F2 (xA hf (xA (lK (T1.trans (aJ al2))) (xA hsv hX))));have HW1:=zh hW1;have hgl:=F1.lt.1;clear F hf T B hb1 B1 HQ HR HTS HBAD HGO c0 al1 k1 F1 T1 al2 F2 F2a hX hsv hA hC hW1;unfold tgV;go_wp2_with fail
       rw [HW1.o]
       go_region_law (first
        | (refine step_append_lies _ rfl _ _ 98 rfl w.heap.size 106 iG (.agg (qT 0 0 0)) 3 24 underlying98 hiG hzG0 hzG1 hzG2 rfl (by decide) (.slice A q C) q ((tgN (aF ms) P q).flatMap clG) rfl HOW.o (qR (w1.heap.size+1) 0) 1 1 (clG (t1,t2,t3)) rfl rfl HCN.o (by intro u hu;simp [clG] at hu;rcases hu with rfl|rfl|rfl<;>rfl) (by decide) (by unfold maxLen;omega) (by omega) (by simp;omega) _ rfl ?_;intro g4 c4 w4 hown hgr hat hlt4;obtain ⟨p4,f4⟩:=HHD.o w4 hgr))
       all_goals
        obtain ⟨F2,hf,T2,hsv,hX⟩:=HX.o;have hgr':=hgr;rw [<- hsv] at hgr' hat
        have O4:OG 106 3 clG w4 w.heap.size (svT ((tgN (aF ms) P (q+1),some (qR g4 0),c4):TB)) (tgN (aF ms) P (q+1)):=by
         unfold OG svT;rw [fY,HT2.o,xU,xX];exact hown
        have U:=F2.update (x:=(tgN (aF ms) P (q+1),some (qR g4 0),c4)) (g4:=g4) (c4:=c4) hlt hgr' O4 rfl (by simpa using hat)
        have T5:Turn (fun j=>w.heap.size<=j) wo (w4.setCell (qR w.heap.size m) (svT ((tgN (aF ms) P (q+1),some (qR g4 0),c4):TB))):=by
         have t4:Turn (fun j=>w.heap.size<=j) _ w4:=⟨hgr.os,hgr.tape,hgr.output,hgr.size,fun j hj hs=>hgr.block j hj (fun e=>hs (by have:=(F2.lt.2 m hlt j (by rw [hsv];exact e.symm)).1;exact this))⟩;exact (T2.trans t4).trans ((aC w4 w.heap.size m _).mono (fun j hj=>by have e:j=w.heap.size:=hj;omega))
        have hsx:svT ((tgN (aF ms) P (q+1),some (qR g4 0),c4):TB)=.slice (some (qR g4 0)) (q+1) c4:=by unfold svT;rw [fY]
        rw [hsx] at U T5
        have HF:=zh (xA U (xA (show ∀ i,i<n->((fun i=>if i=m then ((tgN (aF ms) P (q+1),some (qR g4 0),c4):TB) else f' i) i).1=if i<m then tgs (aF ms) ((aF ms).getD i zP) else if i=m then tgN (aF ms) P (q+1) else [] from fun i hi=>by
         by_cases e:i=m
         .simp [e]
         .simp only [e,if_false];rw [hf i hi];simp [e]) (xA HG2.o T5)))
        clear F2 hf T2 hsv hX hgr' hgr hown hat O4 U T5 hsx HX HOW HHD p4 f4 p1 p2 p3 f1 f2 f3 HCN x0 x1 x2;go_wp2
        go_roundw
        .exact ⟨q+1,_,by omega,by go_num,HF.o.1,HF.o.2.1,HF.o.2.2.1,HF.o.2.2.2⟩
        .simp [qf,intOf];omega
    .have hlt2':¬ (q:Int)<(P.ss.length:Int):=by omega
     have hqe:q=P.ss.length:=by omega
     have HF:=zh (xA B (xA F (xA (show ∀ i,i<n->(f' i).1=if i<m+1 then tgs (aF ms) ((aF ms).getD i zP) else [] from fun i hi=>by
      rw [hf i hi];by_cases e:i<m
      .rw [if_pos e,if_pos (by omega)]
      .by_cases e2:i=m
       .rw [if_neg e,if_pos e2,if_pos (by omega),e2,<- HP.o,hqe];rfl
       .rw [if_neg e,if_neg e2,if_neg (by omega)]) (show ∀ j,j<m+1->tN (aF ms) ((aF ms).getD j zP) from fun j hj=>by
      by_cases e:j=m
      .subst e;rw [<- HP.o];intro i hi;exact hk i (by omega)
      .exact HB.o.2.2.2 j (by omega)))))
     clear F hf hk T B hqe;go_wp2
     go_roundw
     .exact ⟨m+1,f',by omega,by go_num,HF.o.2.1,HF.o.2.2.1,HF.o.2.2.2,HF.o.1⟩
     .simp [qf,intOf];omega
  .have hlt':¬ (m:Int)<(n:Int):=by omega
   have HI:Zh (kI (aF ms)):=fun i hi=>hk i (by omega);have HF:=zh (xA B (xA F (show ∀ i,i<n->(f i).1=tgs (aF ms) ((aF ms).getD i zP) from fun i hi=>by rw [hf i hi,if_pos (by omega)])));clear B F hf hk;go_wp2
   go_ret2
   exact ⟨HF.o.1,.inr (by first|exact ⟨HI.o,f,rfl,HF.o.2.1,HF.o.2.2⟩|exact ⟨HI.o,rfl,f,HF.o.2.1,HF.o.2.2⟩)⟩
theorem aIz (x:Int):rnd (rnd x)=rnd x:=by unfold rnd;omega
theorem aEv {x:Int}(h:x%32=0):rnd x=x:=by unfold rnd;omega
def alF (x:Int):Array Value:=#[qI x,.func (.func 94) #[] #[]]
def alR (x:Int):Array Value:=#[qI x,.func (.func 95) #[] #[]]
structure Lo (w W:qw)(s c k d fx rx:Int)(cs:Array Value):Prop where
 be:qY w W
 k0:Blk W w.heap.size (qW s c k d) 25
 k1:Blk W (w.heap.size+1) zL 64
 k2:Blk W (w.heap.size+2) (alF fx) 153
 k3:Blk W (w.heap.size+3) (alR rx) 155
 k4:Blk W (w.heap.size+4) cs 64
theorem Lo.sz {w W:qw}{c:Int}(h:Lo w W s c k d fx rx cs):w.heap.size+5<=W.heap.size:=h.k4.lt
theorem Lo.bw {w W W':qw}{c:Int}(h:Lo w W s c k d fx rx cs)(hb:qY W W'):Lo w W' s c k d fx rx cs:=⟨h.be.trans (hb.mono h.be.size),h.k0.bw hb,h.k1.bw hb,h.k2.bw hb,h.k3.bw hb,h.k4.bw hb⟩
theorem Lo.set {w W:qw}{c:Int}(h:Lo w W s c k d fx rx cs)(i:Nat)(v:Value):Lo w (W.setCell (qR (w.heap.size+4) i) v) s c k d fx rx (cs.setIfInBounds i v):=by
 have t:=aC W (w.heap.size+4) i v;exact ⟨aI h.be t (fun k hk=>by omega) h.be.size,aA t h.k0 (by omega),aA t h.k1 (by omega),aA t h.k2 (by omega),aA t h.k3 (by omega),h.k4.set i v⟩
theorem Lo.other {w W:qw}{c:Int}(h:Lo w W s c k d fx rx cs)(hg:w.heap.size+5<=g)(i:Nat)(v:Value):Lo w (W.setCell (qR g i) v) s c k d fx rx cs:=by
 have t:=aC W g i v;exact ⟨aI h.be t (fun k hk=>by omega) h.be.size,aA t h.k0 (by omega),aA t h.k1 (by omega),aA t h.k2 (by omega),aA t h.k3 (by omega),aA t h.k4 (by omega)⟩
theorem Lo.callF {w W W':qw}{c fx':Int}(h:Lo w W s c k d fx rx cs)(t:Turn (fun j=>j=w.heap.size+2) W W')(k2:Blk W' (w.heap.size+2) (alF fx') 153):Lo w W' s c k d fx' rx cs:=
 ⟨aI h.be t (fun k hk=>by omega) h.be.size,aA t h.k0 (by omega),aA t h.k1 (by omega),k2,aA t h.k3 (by omega),aA t h.k4 (by omega)⟩
theorem Lo.callR {w W W':qw}{c rx':Int}(h:Lo w W s c k d fx rx cs)(t:Turn (fun j=>j=w.heap.size+3) W W')(k3:Blk W' (w.heap.size+3) (alR rx') 155):Lo w W' s c k d fx rx' cs:=
 ⟨aI h.be t (fun k hk=>by omega) h.be.size,aA t h.k0 (by omega),aA t h.k1 (by omega),aA t h.k2 (by omega),k3,aA t h.k4 (by omega)⟩
theorem Lo.grown {w W W':qw}{c:Int}{row:Option Nat}(h:Lo w W s c k d fx rx cs)(hg:W.grownBy W' row)(hr:∀ j,row=some j->w.heap.size+5<=j):Lo w W' s c k d fx rx cs:=by
 have t:Turn (fun j=>row=some j) W W':=⟨hg.os,hg.tape,hg.output,hg.size,fun j hj hs=>hg.block j hj (fun e=>hs e.symm)⟩;exact ⟨aI h.be t (fun j hj=>by have:=hr j hj;omega) h.be.size,aA t h.k0 (fun e=>by have:=hr _ e;omega),aA t h.k1 (fun e=>by have:=hr _ e;omega),aA t h.k2 (fun e=>by have:=hr _ e;omega),aA t h.k3 (fun e=>by have:=hr _ e;omega),aA t h.k4 (fun e=>by have:=hr _ e;omega)⟩
theorem aMn (w:qw)(s c k d:Int):Lo w (((((w.alloc (.cells (qW s c k d) 25)).alloc (.cells qz 64)).alloc (.cells #[qI 0,.func (.func 94) #[] #[]] 153)).alloc (.cells #[qI 65536,.func (.func 95) #[] #[]] 155)).alloc (.cells qz 64)) s c k d 0 65536 zL:=by
 have k0:=Blk.new w (qW s c k d) 25;have b0:qY w (w.alloc (.cells (qW s c k d) 25)):=bal;have s0:(w.alloc (.cells (qW s c k d) 25)).heap.size=w.heap.size+1:=by simp
 generalize w.alloc (.cells (qW s c k d) 25)=W0 at *;have k1:=Blk.new W0 qz 64;have b1:qY W0 (W0.alloc (.cells qz 64)):=bal;have s1:(W0.alloc (.cells qz 64)).heap.size=w.heap.size+2:=by simp [s0]
 rw [s0] at k1;generalize W0.alloc (.cells qz 64)=W1 at *;have k2:=Blk.new W1 #[qI 0,.func (.func 94) #[] #[]] 153;have b2:qY W1 (W1.alloc (.cells #[qI 0,.func (.func 94) #[] #[]] 153)):=bal;have s2:(W1.alloc (.cells #[qI 0,.func (.func 94) #[] #[]] 153)).heap.size=w.heap.size+3:=by simp [s1]
 rw [s1] at k2;generalize W1.alloc (.cells #[qI 0,.func (.func 94) #[] #[]] 153)=W2 at *;have k3:=Blk.new W2 #[qI 65536,.func (.func 95) #[] #[]] 155;have b3:qY W2 (W2.alloc (.cells #[qI 65536,.func (.func 95) #[] #[]] 155)):=bal;have s3:(W2.alloc (.cells #[qI 65536,.func (.func 95) #[] #[]] 155)).heap.size=w.heap.size+4:=by simp [s2]
 rw [s2] at k3;generalize W2.alloc (.cells #[qI 65536,.func (.func 95) #[] #[]] 155)=W3 at *;have k4:=Blk.new W3 qz 64;have b4:qY W3 (W3.alloc (.cells qz 64)):=bal;rw [s3] at k4;have c34:=b4;have c24:=b3.trans (c34.mono (by omega));have c14:=b2.trans (c24.mono (by omega));have c04:=b1.trans (c14.mono (by omega));exact ⟨b0.trans (c04.mono (by omega)),k0.bw c04,k1.bw c14,k2.bw c24,k3.bw c34,k4⟩
def Lq (w:qw)(j:Nat):Prop:=w.heap.size<=j/\j<w.heap.size+5
theorem aHa {w W:qw}(k1:Blk W (w.heap.size+1) zL 64)(v0 v1 v2 v3 v4 v5:Value)(Q:Ending->World->Prop)(tmps:Array Value)(h4:tmps[4]?=some (.pointer (some (qR (w.heap.size+1) 0))))(hQ:Q (.returned (.agg #[v0,v1,v2,v3,v4,v5])) (st6 W (w.heap.size+1) v0 v1 v2 v3 v4 v5)):
 bodyPost prog f55 Q Exit.ret ⟨tmps,[]⟩ (st6 W (w.heap.size+1) v0 v1 v2 v3 v4 v5):=by
 have k:=kF k1 v0 v1 v2 v3 v4 v5;obtain ⟨t0,t1,t2,t3,t4,t5⟩:=k.z6;refine bodyPost_ret_by (v:=.agg #[v0,v1,v2,v3,v4,v5]) ?_ rfl hQ;simp [results,results55,go_sem,h4,t0,t1,t2,t3,t4,t5]
theorem rZ (a:qO)(n cap:Nat)(ms:List Md)(s c k d:Int)(w:qw)(h:MSD w a n cap ms)(hn:n<=4)(hcf:cfo s c k d=true)(hv:fV (aF ms)):
 qC 55 #[qS a n cap,.agg (qW s c k d)] w fun e w'=>qY w w'/\∃ a0 c0 xs a2 c2,e=.returned (.agg (mC ⟨(lay (aF ms) s c k).places,(lay (aF ms) s c k).stack,(lay (aF ms) s c k).slots,(lay (aF ms) s c k).flash,(lay (aF ms) s c k).ram,[]⟩ a0 c0 xs a2 c2 none 0 []))/\LayO w' w.heap.size ⟨(lay (aF ms) s c k).places,(lay (aF ms) s c k).stack,(lay (aF ms) s c k).slots,(lay (aF ms) s c k).flash,(lay (aF ms) s c k).ram,[]⟩ a0 c0 xs a2 c2 none 0 []:=by
 have N0:=aMn w s c k d;have hl:=h.s.1;have hpl:(aF ms).length=n:=by rw [bQ,hl]
 have HH:=zh h;have HVD:=zh hv;obtain ⟨hs0,hs1,hc0,hc1,hk0,hk1,hk2,_⟩:=of_decide_eq_true hcf;have HN:=zh N0;clear h N0 hcf hv;go_enter func55,ntmps55
 go_wp2_with fail
 go_loopw [15] (fun i wr=>∃ (m:Nat) (a0:qO) (c0:Nat) (xs:List PB),m<=n/\i=qI m/\Lo w wr s c k d (Fl (aF ms) m) (65536+Ra (aF ms) m) #[qS a0 m c0,qI 0,qS none 0 0,qI 0,qI 0,qS none 0 0]/\OPl wr (w.heap.size+5) (w.heap.size+5) (qS a0 m c0) xs/\xs.length=m/\xs.map (fun x=>x.1)=(List.range m).map (plc (aF ms))) (qf n)
 .exact ⟨0,none,0,[],xC _,rfl,HN.o,wO,rfl,rfl⟩
 .clear HN;obtain ⟨m,a0,c0,xs,hm,rfl,S,PX,xl,xp⟩:=hrel;generalize wr=wo at *;by_cases hlt:m<n
  .have hlt':(m:Int)<(n:Int):=by omega
   have H:=HH.o.bw S.be;obtain ⟨b,off,rfl,q0,q1,q2,q3,q4,q5,q6,q7⟩:=H.s.at m hlt;have hmd:=HH.o.d m hlt;have hvm:=HVD.o m (by omega);obtain ⟨P,hP⟩:=eqx ((aF ms).getD m zP);have hPM:P=(ms.getD m zMd).pm:=hP.trans (cD (by omega));rw [<- hP] at hvm;have rT:0<=rnd (4*(P.tz.length:Int))/\rnd (4*(P.tz.length:Int))<=831:=fB hvm;have rD:0<=(rnd ((P.dz.length:Int)+P.bss))/\(rnd ((P.dz.length:Int)+P.bss))<=1055:=hY hvm;have rF:=cN HVD.o m (by omega);have rR:=bP HVD.o m (by omega);obtain ⟨_,_,vt,vb,vd,vs0,vs1,vbk⟩:=bS hvm;have eT:(ms.getD m zMd).tn=P.tz.length:=by rw [hPM];exact hmd.t.1.symm
   have eD:(ms.getD m zMd).dn=P.dz.length:=by rw [hPM];exact hmd.d.1.symm
   have eS:(ms.getD m zMd).bss=P.bss:=by rw [hPM];rfl
   have eB:(ms.getD m zMd).bn=P.bl.length:=by rw [hPM];show _=(List.map _ _).length;rw [xH];exact hmd.b.1.symm
   have HBK:Zh (∀ j,j<P.bl.length->((ms.getD m zMd).bl.getD j zB).2.1=(P.bl.getD j []).length):=fun j hj=>by rw [hPM];exact (oW hmd j (by omega)).1
   have HBS:=zh hmd.b;rw [eB] at HBS;have HVM:=zh hvm;have HPP:=zh hP;generalize ms.getD m zMd=M at *;rw [eT] at q1;rw [eB] at q2;rw [eD] at q3;rw [eS] at q4;have al:qY wo ((wo.alloc (.cells (qM M.nm M.ta P.tz.length M.tc M.ba P.bl.length M.bc M.da P.dz.length M.dc P.bss M.ra M.rn M.rc M.ia M.im M.ic M.ea M.en M.ec) 53)).alloc (.cells #[qI 0,qS none 0 0,qI 0,qI 0] 136)):=(brf.alloc aL _).alloc (by simp) _;have kM:=(Blk.new wo (qM M.nm M.ta P.tz.length M.tc M.ba P.bl.length M.bc M.da P.dz.length M.dc P.bss M.ra M.rn M.rc M.ia M.im M.ic M.ea M.en M.ec) 53).alloc (.cells #[qI 0,qS none 0 0,qI 0,qI 0] 136);have kp:=Blk.new (wo.alloc (.cells (qM M.nm M.ta P.tz.length M.tc M.ba P.bl.length M.bc M.da P.dz.length M.dc P.bss M.ra M.rn M.rc M.ia M.im M.ic M.ea M.en M.ec) 53)) #[qI 0,qS none 0 0,qI 0,qI 0] 136;try unfold qY at *
   simp only [xF] at kp;have S1:=S.bw al;have hgw:=S.sz;have g1:=kM.e1;have HPL:=zh (qN (w.heap.size+2) (Fl (aF ms) m) M.ta P.tz.length M.tc ((wo.alloc (.cells (qM M.nm M.ta P.tz.length M.tc M.ba P.bl.length M.bc M.da P.dz.length M.dc P.bss M.ra M.rn M.rc M.ia M.im M.ic M.ea M.en M.ec) 53)).alloc (.cells #[qI 0,qS none 0 0,qI 0,qI 0] 136)) S1.k2 (by omega) (by omega) (by omega));have HQ:=zh (xA S1 (xA kM (xA kp (aJ (S:=Lq w) al))));have HPX:=zh (xA PX (xA xl xp));clear H hmd hP hPM eT eD eS eB al S hvm kM kp S1 PX xl xp;go_wp2_with fail
   refine HPL.o.mono ?_;rintro e w1 ⟨rfl,B1,U1⟩;obtain ⟨S1,kM,kp,TT⟩:=HQ.o;have S2:=S1.callF (fx':=(Fl (aF ms) m+rnd (4*(P.tz.length:Int)))) U1 B1;have kM2:=aA U1 kM (by omega);have kp2:=aA U1 kp (by omega);have TT2:=TT.trans (U1.mono (S':=Lq w) (fun j hj=>by have e:j=w.heap.size+2:=hj;unfold Lq;omega));have y0:=kp2.e0;have f0:=kp2.frozen 0;have S3:=S2.other (g:=wo.heap.size+1) (by omega) 0 (qI (Fl (aF ms) m));have tp:=aC w1 (wo.heap.size+1) 0 (qI (Fl (aF ms) m));have kM3:=aA tp kM2 (by omega);have kp3:=kp2.s0 (qI (Fl (aF ms) m));have TT3:=bB TT2 (show wo.heap.size<=wo.heap.size+1 by omega) 0 (qI (Fl (aF ms) m));have g2:=kM3.e2;have g2':=kM2.e2;have HPA:=zh (wH (w.heap.size+2) (Fl (aF ms) m+rnd (4*(P.tz.length:Int))) P M.ba M.bc M.bl w (w1.setCell (qR (wo.heap.size+1) 0) (qI (Fl (aF ms) m))) S3.k2 HVM.o (by omega) (by omega) S3.be (by omega) HBS.o HBK.o);have HQ3:=zh (xA S3 (xA kM3 (xA kp3 TT3)));clear S1 kM kp TT S2 kM2 kp2 TT2 S3 tp kM3 kp3 TT3 HQ HPL B1 U1 g1;go_wp2_with fail
   refine HPA.o.mono ?_;rintro e w2 ⟨ar,cr,rfl,O,B2,U2⟩;obtain ⟨S3,kM3,kp3,TT3⟩:=HQ3.o;have hbs:wo.heap.size+2<=(w1.setCell (qR (wo.heap.size+1) 0) (qI (Fl (aF ms) m))).heap.size:=kp3.lt;have O:=O.mono hbs;have S4:=S3.callF (fx':=(Fl (aF ms) m+rnd (4*(P.tz.length:Int)))+cB P P.bl.length) U2 B2;have kM4:=aA U2 kM3 (by omega);have kp4:=aA U2 kp3 (by omega);have TT4:=TT3.trans (U2.mono (S':=Lq w) (fun j hj=>by have e:j=w.heap.size+2:=hj;unfold Lq;omega));have y1:=kp4.e1;have f1:=kp4.frozen 1;have tp:=aC w2 (wo.heap.size+1) 1 (qS ar P.bl.length cr);have S5:=S4.other (g:=wo.heap.size+1) (by omega) 1 (qS ar P.bl.length cr);have kM5:=aA tp kM4 (by omega);have kp5:=kp4.s1 (qS ar P.bl.length cr);have TT5:=bB TT4 (show wo.heap.size<=wo.heap.size+1 by omega) 1 (qS ar P.bl.length cr);have O5:=O.kept tp (fun k hk e=>by have:=(O.lt k hk).1;have e':k=wo.heap.size+1:=e;omega);have g3:=kM5.e3;have g4:=kM5.e4;have g3':=kM4.e3;have g4':=kM4.e4;have y3:=kp5.e3;have y3':=kp4.e3;have f3:=kp5.frozen 3;have f3':=kp4.frozen 3;have hwd:IntKind.i64.wrap ((P.dz.length:Int)+P.bss)=(P.dz.length:Int)+P.bss:=bC _ (by omega) (by omega);have tq:=aC (w2.setCell (qR (wo.heap.size+1) 1) (qS ar P.bl.length cr)) (wo.heap.size+1) 3 (qI (rnd ((P.dz.length:Int)+P.bss)));have S6:=S5.other (g:=wo.heap.size+1) (by omega) 3 (qI (rnd ((P.dz.length:Int)+P.bss)));have kp6:=kp5.s3 (qI (rnd ((P.dz.length:Int)+P.bss)));have TT6:=bB TT5 (show wo.heap.size<=wo.heap.size+1 by omega) 3 (qI (rnd ((P.dz.length:Int)+P.bss)));have O6:=O5.kept tq (fun k hk e=>by have:=(O5.lt k hk).1;have e':k=wo.heap.size+1:=e;omega);have z3:=kp6.e3;have HPI:=zh (lD (w.heap.size+3) (65536+Ra (aF ms) m) (rnd ((P.dz.length:Int)+P.bss)) ((w2.setCell (qR (wo.heap.size+1) 1) (qS ar P.bl.length cr)).setCell (qR (wo.heap.size+1) 3) (qI (rnd ((P.dz.length:Int)+P.bss)))) S6.k3 (by omega) (by omega) (by omega) (by omega));have HQ6:=zh (xA S6 (xA kp6 (xA TT6 O6)));clear S3 kM3 kp3 TT3 S4 kM4 kp4 TT4 tp S5 kM5 kp5 TT5 O O5 tq S6 kp6 TT6 O6 HQ3 HPA B2 U2 g2 g2' y0 f0 hbs;go_wp2_with fail
   refine (gB ((P.dz.length:Int)+P.bss) _ (by omega) (by omega)).mono ?_;rintro e wz ⟨rfl,rfl⟩;go_wp2_with fail
   refine HPI.o.mono ?_;rintro e w3 ⟨rfl,B3,U3⟩;obtain ⟨S6,kp6,TT6,O6⟩:=HQ6.o;have rR1:=bP HVD.o (m+1) (by omega);have rF1:=cN HVD.o (m+1) (by omega)
   have eR:(65536+Ra (aF ms) m)+rnd (rnd ((P.dz.length:Int)+P.bss))=65536+Ra (aF ms) (m+1):=by
    rw [aIz];show _=65536+(Ra (aF ms) m+dsz ((aF ms).getD m zP));rw [<- HPP.o];show _=65536+(Ra (aF ms) m+(rnd ((P.dz.length:Int)+P.bss)));omega
   have eF:(Fl (aF ms) m+rnd (4*(P.tz.length:Int)))+cB P P.bl.length=Fl (aF ms) (m+1):=by
    show _=Fl (aF ms) m+msz ((aF ms).getD m zP);rw [<- HPP.o];show _=Fl (aF ms) m+(rnd (4*(P.tz.length:Int))+cB P P.bl.length);omega
   have S7:=S6.callR (rx':=(65536+Ra (aF ms) m)+rnd (rnd ((P.dz.length:Int)+P.bss))) U3 B3;rw [eR,eF] at S7;have kp7:=aA U3 kp6 (by omega);have TT7:=TT6.trans (U3.mono (S':=Lq w) (fun j hj=>by have e:j=w.heap.size+3:=hj;unfold Lq;omega));have O7:=O6.kept U3 (fun k hk e=>by have:=(O6.lt k hk).1;have e':k=w.heap.size+3:=e;omega);have y2:=kp7.e2;have f2:=kp7.frozen 2;have tp:=aC w3 (wo.heap.size+1) 2 (qI (65536+Ra (aF ms) m));have S8:=S7.other (g:=wo.heap.size+1) (by omega) 2 (qI (65536+Ra (aF ms) m));have kp8:=kp7.s2 (qI (65536+Ra (aF ms) m));have TT8:=bB TT7 (show wo.heap.size<=wo.heap.size+1 by omega) 2 (qI (65536+Ra (aF ms) m));have O8:=O7.kept tp (fun k hk e=>by have:=(O7.lt k hk).1;have e':k=wo.heap.size+1:=e;omega);have PX8:=HPX.o.1.kept TT8 (fun k hk e=>by have:=(HPX.o.1.lt.1 k hk).1;unfold Lq at e;omega) (fun x hx k hk e=>by have:=(HPX.o.1.lt.2 x hx k hk).1;unfold Lq at e;omega);have p0:=S8.k4.e0;have p0':=S7.k4.e0;obtain ⟨r0,r1,r2,r3⟩:=kp8.z4;have r0':=kp7.e0;have r1':=kp7.e1;have r3':=kp7.e3;have hTs:=TT8.size;have hsC:(w3.setCell (qR (wo.heap.size+1) 2) (qI (65536+Ra (aF ms) m))).heap.size=w3.heap.size:=aG _ _ _;obtain ⟨iP,hiP,hzP0,hzP1,hzP2⟩:=info_parts aLk;have al2:Below (w3.setCell (qR (wo.heap.size+1) 2) (qI (65536+Ra (aF ms) m))).heap.size (w3.setCell (qR (wo.heap.size+1) 2) (qI (65536+Ra (aF ms) m))) ((w3.setCell (qR (wo.heap.size+1) 2) (qI (65536+Ra (aF ms) m))).alloc (.cells #[qI (Fl (aF ms) m),qS ar P.bl.length cr,qI (65536+Ra (aF ms) m),qI (rnd ((P.dz.length:Int)+P.bss))] 136)):=brf.alloc aL _;have HOW:=zh (show ((w3.setCell (qR (wo.heap.size+1) 2) (qI (65536+Ra (aF ms) m))).alloc (.cells #[qI (Fl (aF ms) m),qS ar P.bl.length cr,qI (65536+Ra (aF ms) m),qI (rnd ((P.dz.length:Int)+P.bss))] 136)).ownsRow (w.heap.size+5) 136 4 (qS a0 m c0) m (xs.flatMap clP) by have:=PX8.head.bw al2;unfold OG at this;rw [HPX.o.2.1] at this;exact this);have HCL:=zh (show clP ((⟨(Fl (aF ms) m),bkx P (Fl (aF ms) m+rnd (4*(P.tz.length:Int))) P.bl.length,(65536+Ra (aF ms) m),(rnd ((P.dz.length:Int)+P.bss))⟩,ar,cr):PB)=[qI (Fl (aF ms) m),qS ar P.bl.length cr,qI (65536+Ra (aF ms) m),qI (rnd ((P.dz.length:Int)+P.bss))] by simp [clP,svP,kG]);have HCN:=zh (show ∀ j u,([qI (Fl (aF ms) m),qS ar P.bl.length cr,qI (65536+Ra (aF ms) m),qI (rnd ((P.dz.length:Int)+P.bss))]:List Value)[j]?=some u->((w3.setCell (qR (wo.heap.size+1) 2) (qI (65536+Ra (aF ms) m))).alloc (.cells #[qI (Fl (aF ms) m),qS ar P.bl.length cr,qI (65536+Ra (aF ms) m),qI (rnd ((P.dz.length:Int)+P.bss))] 136)).cell? (((qR w3.heap.size 0):Addr).add j)=some u by rw [<- hsC];exact aN (w3.setCell (qR (wo.heap.size+1) 2) (qI (65536+Ra (aF ms) m))) _ _ [qI (Fl (aF ms) m),qS ar P.bl.length cr,qI (65536+Ra (aF ms) m),qI (rnd ((P.dz.length:Int)+P.bss))] rfl);have HLO:Zh (∀ A∈xs,∀ j,(svP A).ownBlock=some j->j<wo.heap.size+2):=fun A hA j hj=>by have:=(HPX.o.1.lt.2 A hA j hj).2;omega
   have HPLC:=zh (show plc (aF ms) m=⟨(Fl (aF ms) m),bkx P (Fl (aF ms) m+rnd (4*(P.tz.length:Int))) P.bl.length,(65536+Ra (aF ms) m),(rnd ((P.dz.length:Int)+P.bss))⟩ by unfold plc bkx;rw [<- HPP.o];rfl);have HQ8:=zh (xA (S8.bw al2) (xA (PX8.bw al2) (O8.bw al2)));have HPL2:=zh HPX.o.2;have hlw:(w3.setCell (qR (wo.heap.size+1) 2) (qI (65536+Ra (aF ms) m))).heap.size+1=((w3.setCell (qR (wo.heap.size+1) 2) (qI (65536+Ra (aF ms) m))).alloc (.cells #[qI (Fl (aF ms) m),qS ar P.bl.length cr,qI (65536+Ra (aF ms) m),qI (rnd ((P.dz.length:Int)+P.bss))] 136)).heap.size:=by simp
   have hwl:w.heap.size+5<=w3.heap.size:=by have:=S7.sz;omega
   clear S6 kp6 TT6 O6 S7 kp7 TT7 O7 tp S8 kp8 TT8 O8 PX8 al2 HQ6 HPI B3 U3 eR eF y1 f1 g3 g4 g3' g4' y3 y3' f3 f3' z3;go_wp2_with (at_builtin;refine wpList_append_own _ rfl _ _ 61 rfl (w.heap.size+5) 136 iP (.agg #[qI 0,qS none 0 0,qI 0,qI 0]) 4 48 underlying61 hiP hzP0 hzP1 hzP2 rfl (by decide) (qS a0 m c0) m (xs.flatMap clP) rfl HOW.o (qR w3.heap.size 0) 1 1 [qI (Fl (aF ms) m),qS ar P.bl.length cr,qI (65536+Ra (aF ms) m),qI (rnd ((P.dz.length:Int)+P.bss))] rfl rfl HCN.o (by intro u hu;simp at hu;rcases hu with rfl|rfl|rfl|rfl<;>rfl) (by unfold maxLen;omega) (by omega) (by simp;omega) ?_;intro v' w4 hown hgr _;obtain ⟨S8,PX8,O8⟩:=HQ8.o;have hrow:∀ j,(qS a0 m c0).ownBlock=some j->w.heap.size+5<=j:=(fun j hj=>(PX8.lt.1 j hj).1);have P4:=PX8.push (x:=((⟨(Fl (aF ms) m),bkx P (Fl (aF ms) m+rnd (4*(P.tz.length:Int))) P.bl.length,(65536+Ra (aF ms) m),(rnd ((P.dz.length:Int)+P.bss))⟩,ar,cr):PB)) HPL2.o.1 (by show OG _ _ _ _ _ (.slice ar (bkx P (Fl (aF ms) m+rnd (4*(P.tz.length:Int))) P.bl.length).length cr) _;rw [kG];exact O8) (by omega) HLO.o (by rw [HCL.o];exact hown) hgr (by decide);have S9:=S8.grown hgr hrow;obtain ⟨a0',c0',rfl⟩:=aO P4.head;rw [show (xs++[((⟨(Fl (aF ms) m),bkx P (Fl (aF ms) m+rnd (4*(P.tz.length:Int))) P.bl.length,(65536+Ra (aF ms) m),(rnd ((P.dz.length:Int)+P.bss))⟩,ar,cr):PB)]).length=m+1 by rw [xI,HPL2.o.1];rfl] at P4 ⊢;have p4:w4.cell? (qR (w.heap.size+4) 0)=some (qS a0 m c0):=S9.k4.cell 0;have f4:=S9.k4.frozen 0;have H9:=zh (xA S9 P4);clear S8 PX8 O8 hrow P4 S9 hown hgr HOW HQ8 p0 p0' r0 r1 r2 r3 r0' r1' r3')
   obtain ⟨S9,P9⟩:=H9.o;have t9:=aC w4 (w.heap.size+4) 0 (qS a0' (m+1) c0');have S10:Lo w (w4.setCell (qR (w.heap.size+4) 0) (qS a0' (m+1) c0')) s c k d (Fl (aF ms) (m+1)) (65536+Ra (aF ms) (m+1)) #[qS a0' (m+1) c0',qI 0,qS none 0 0,qI 0,qI 0,qS none 0 0]:=S9.set 0 (qS a0' (m+1) c0');have P10:=P9.kept t9 (fun k hk e=>by have:=(P9.lt.1 k hk).1;have e':k=w.heap.size+4:=e;omega) (fun x hx k hk e=>by have:=(P9.lt.2 x hx k hk).1;have e':k=w.heap.size+4:=e;omega);have H10:=zh (xA S10 (xA P10 (xA (show (xs++[((⟨(Fl (aF ms) m),bkx P (Fl (aF ms) m+rnd (4*(P.tz.length:Int))) P.bl.length,(65536+Ra (aF ms) m),(rnd ((P.dz.length:Int)+P.bss))⟩,ar,cr):PB)]).length=m+1 by rw [xI,HPL2.o.1];rfl) (show (xs++[((⟨(Fl (aF ms) m),bkx P (Fl (aF ms) m+rnd (4*(P.tz.length:Int))) P.bl.length,(65536+Ra (aF ms) m),(rnd ((P.dz.length:Int)+P.bss))⟩,ar,cr):PB)]).map (fun x=>x.1)=(List.range (m+1)).map (plc (aF ms)) by rw [List.map_append,HPL2.o.2,List.range_succ,List.map_append];simp only [List.map_cons,List.map_nil];rw [HPLC.o]))));clear S9 P9 t9 S10 P10 H9 p4 f4;go_wp2
   go_roundw
   .exact ⟨m+1,a0',c0',_,by omega,by go_num,H10.o.1,H10.o.2.1,H10.o.2.2.1,H10.o.2.2.2⟩
   .simp [qf,intOf];omega
  .have hlt':¬ (m:Int)<(n:Int):=by omega
   have hmn:m=n:=by omega
   subst hmn;have rF:=cN HVD.o m (by omega);have rR:=bP HVD.o m (by omega);obtain ⟨sn,rfl⟩:∃ sn:Nat,s=(sn:Int):=⟨s.toNat,by omega⟩;obtain ⟨RW,hRW⟩:=eqx (rnd (4*c));have rRW:0<=RW/\RW<=287:=by have:=bA (x:=4*c) (by omega);omega
   have HRW:=zh hRW;have c2:=S.k0.e2;have HPI:=zh (lD (w.heap.size+3) (65536+Ra (aF ms) m) k wo S.k3 (by omega) (by omega) (by omega) (by omega));have HK:=zh (aEv hk2);have HQ:=zh (xA S (xA PX (xA xl xp)));clear S PX xl xp hRW;go_wp2_with fail
   refine HPI.o.mono ?_;rintro e w1 ⟨rfl,B1,U1⟩;rw [HK.o] at B1;obtain ⟨S,PX,xl,xp⟩:=HQ.o;have S1:=S.callR (rx':=(65536+Ra (aF ms) m)+k) U1 B1;have PX1:=PX.kept U1 (fun j hj e=>by have:=(PX.lt.1 j hj).1;have e':j=w.heap.size+3:=e;omega) (fun x hx j hj e=>by have:=(PX.lt.2 x hx j hj).1;have e':j=w.heap.size+3:=e;omega);have HXL:Zh (∀ x∈xs,∀ j,(svP x).ownBlock=some j->j<w1.heap.size):=fun x hx j hj=>(PX1.lt.2 x hx j hj).2;have y1:=S1.k4.e1;have f1:=S1.k4.frozen 1;have S2:Lo w (w1.setCell (qR (w.heap.size+1+1+1+1) 1) (qI (65536+Ra (aF ms) m))) sn c k d (Fl (aF ms) m) ((65536+Ra (aF ms) m)+k) #[qS a0 m c0,qI (65536+Ra (aF ms) m),qS none 0 0,qI 0,qI 0,qS none 0 0]:=S1.set 1 (qI (65536+Ra (aF ms) m));have t2:Turn (fun j=>j=w.heap.size+4) w1 (w1.setCell (qR (w.heap.size+1+1+1+1) 1) (qI (65536+Ra (aF ms) m))):=aC w1 (w.heap.size+4) 1 (qI (65536+Ra (aF ms) m));have PX2:=PX1.kept t2 (fun j hj e=>by have:=(PX1.lt.1 j hj).1;have e':j=w.heap.size+4:=e;omega) (fun x hx j hj e=>by have:=(PX1.lt.2 x hx j hj).1;have e':j=w.heap.size+4:=e;omega);have c0':=S2.k0.e0;have c0'':=S1.k0.e0;have hsz1:=S1.sz;have HXX:=zh (xA xl xp);have HQ2:=zh (xA S2 PX2);have HZ:=zh (show (65536+Ra (aF ms) m)+k=(65536+Ra (aF ms) m)+k+((0:Nat):Int)*RW by simp);obtain ⟨iI,hiI,hz0,hz1,hz2⟩:=info_parts gG;clear S PX xl xp S1 PX1 S2 t2 PX2 B1 U1 HPI HQ c2;go_wp2_with fail
   go_loopw [52] (fun i wx=>∃ (q:Nat) (a2:qO) (c2:Nat) (RQ:Int),q<=sn/\i=qI q/\Hid (RQ=(65536+Ra (aF ms) m)+k+(q:Int)*RW)/\Lo w wx sn c k d (Fl (aF ms) m) RQ #[qS a0 m c0,qI (65536+Ra (aF ms) m),qS a2 q c2,qI 0,qI 0,qS none 0 0]/\OG 3 1 clI wx w1.heap.size (qS a2 q c2) ((List.range q).map (slt (aF ms) c k))/\OPl wx (w.heap.size+5) (w.heap.size+5) (qS a0 m c0) xs/\w1.heap.size<=wx.heap.size) (qf sn)
   .exact ⟨0,none,0,_,xC _,rfl,HZ,HQ2.o.1,cE _ _ _ _ _,HQ2.o.2,by rw [aG];exact aL⟩
   .clear HQ2 y1 f1 c0' c0'' HZ;obtain ⟨q,a2,c2,RQ,hq,rfl,hRQ,S,O,PX,hsw⟩:=hrel
    have rRQ:0<=RQ/\RQ<=100000:=by
     have:=hRQ.out;have h1:(q:Int)*RW<=4*287:=Int.mul_le_mul (by omega) (by omega) (by omega) (by omega);have h0:0<=(q:Int)*RW:=Int.mul_nonneg (by omega) (by omega);omega
    by_cases hlt2:q<sn
    .have hlt2':(q:Int)<(sn:Int):=by omega
     have p2:=S.k4.e2;have v1:=S.k0.e1;have hwc:IntKind.i64.wrap (4*c)=4*c:=bC _ (by omega) (by omega)
     have HSU:=zh (show (List.range (q+1)).map (slt (aF ms) c k)=(List.range q).map (slt (aF ms) c k)++[RQ] by
      rw [List.range_succ,List.map_append];simp only [List.map_cons,List.map_nil];congr 2;unfold slt
      rw [hpl,hRQ.out,HRW.o])
     have HLN:=zh (show ((List.range q).map (slt (aF ms) c k)).length=q by simp);have HNQ:=zh (show RQ+RW=(65536+Ra (aF ms) m)+k+((q+1:Nat):Int)*RW by rw [hRQ.out];push_cast;rw [Int.add_mul];omega);have HO:=zh (xA S (xA O PX));have hszr:=S.sz;clear S O PX hRQ;go_wp2_with fail
     go_region_law (first
      | (refine step_append_lies _ rfl _ _ 29 rfl w1.heap.size 3 iI (qI 0) 1 8 underlying29 hiI hz0 hz1 hz2 rfl (by decide) (qS a2 q c2) q (((List.range q).map (slt (aF ms) c k)).flatMap clI) rfl HOW.o (qR wa.heap.size 0) 1 1 (clI RQ) rfl rfl (aN wa _ _ (clI RQ) rfl) (by intro u hu;simp [clI] at hu;subst hu;rfl) (by decide) (by unfold maxLen;omega) (by omega) (by simp;omega) _ rfl ?_;intro g4 c4 w4 hown hgr hat hlt4;have hrw:∀ j,(qS a2 q c2).ownBlock=some j->w.heap.size+5<=j:=(fun j hj=>by have:=(OAL.o.lt j hj).1;omega);have p4:w4.cell? (qR (w.heap.size+4) 2)=some (qS a2 q c2):=(SAL.o.grown hgr hrw).k4.cell 2;have f4:=(SAL.o.grown hgr hrw).k4.frozen 2)
      | (go_simp;go_at_call 98;refine (lD (w.heap.size+3) RQ (4*c) _ (by first|exact HO.o.1.k3|exact HO.o.1.drew.k3) (by omega) (by omega) (by omega) (by omega)).mono ?_;rintro e wa ⟨rfl,Ba,Ua⟩;rw [<- HRW.o] at Ba;have Ua':Turn (fun j=>j=w.heap.size+3) wr wa:=⟨Ua.os,Ua.tape,Ua.output,Ua.size,Ua.block⟩;have SA:=HO.o.1.callR (rx':=RQ+RW) Ua' Ba;have hsa:=Ua'.size;have OA:=HO.o.2.1.kept Ua' (fun j hj e=>by have:=(HO.o.2.1.lt j hj).1;have e':j=w.heap.size+3:=e;omega);have XA:=HO.o.2.2.kept Ua' (fun j hj e=>by have:=(HO.o.2.2.lt.1 j hj).1;have e':j=w.heap.size+3:=e;omega) (fun x hx j hj e=>by have:=(HO.o.2.2.lt.2 x hx j hj).1;have e':j=w.heap.size+3:=e;omega);have al:qY wa (wa.alloc (.cells #[qI RQ] 3)):=brf.alloc aL _;have pa:wa.cell? (qR (w.heap.size+4) 2)=some (qS a2 q c2):=SA.k4.cell 2;have SAL:=zh (SA.bw al);have OAL:=zh (OA.bw al);have XAL:=zh (XA.bw al);have pb:(wa.alloc (.cells #[qI RQ] 3)).cell? (qR (w.heap.size+4) 2)=some (qS a2 q c2):=SAL.o.k4.cell 2;have va:wa.cell? (qR w.heap.size 1)=some (qI c):=SA.k0.cell 1;have HOW:=zh (show (wa.alloc (.cells #[qI RQ] 3)).ownsRow w1.heap.size 3 1 (qS a2 q c2) q (((List.range q).map (slt (aF ms) c k)).flatMap clI) by have:=OAL.o;unfold OG at this;rw [HLN.o] at this;exact this);clear Ba Ua Ua' SA OA XA al))
     all_goals
      have S4:=SAL.o.grown hgr hrw
      have O4:OG 3 1 clI w4 w1.heap.size (qS (qP g4) (q+1) c4) ((List.range (q+1)).map (slt (aF ms) c k)):=by
       unfold OG;rw [HSU.o,xI,HLN.o,xU,xX];exact hown
      have X4:OPl w4 (w.heap.size+5) (w.heap.size+5) (qS a0 m c0) xs:=⟨XAL.o.head.kept' hgr (fun k hk e=>by obtain ⟨cc,k1⟩:=aM OAL.o e;exact aP XAL.o.head hk k1 (by decide)),fun x hx=>(XAL.o.rows x hx).kept' hgr (fun k hk e=>by have h1:=(OAL.o.lt k e).1;have h2:=HXL.o x hx k hk;omega),XAL.o.apart⟩;have t5:=aC w4 (w.heap.size+4) 2 (qS (qP g4) (q+1) c4);have S5:Lo w (w4.setCell (qR (w.heap.size+4) 2) (qS (qP g4) (q+1) c4)) sn c k d (Fl (aF ms) m) (RQ+RW) #[qS a0 m c0,qI (65536+Ra (aF ms) m),qS (qP g4) (q+1) c4,qI 0,qI 0,qS none 0 0]:=S4.set 2 (qS (qP g4) (q+1) c4);have O5:=O4.kept t5 (fun k hk e=>by have:=(O4.lt k hk).1;have e':k=w.heap.size+4:=e;omega);have X5:=X4.kept t5 (fun k hk e=>by have:=(X4.lt.1 k hk).1;have e':k=w.heap.size+4:=e;omega) (fun x hx k hk e=>by have:=(X4.lt.2 x hx k hk).1;have e':k=w.heap.size+4:=e;omega)
      have hs5:w1.heap.size<=(w4.setCell (qR (w.heap.size+4) 2) (qS (qP g4) (q+1) c4)).heap.size:=by
       have h1:=hgr.size;have h2:(wa.alloc (.cells #[qI RQ] 3)).heap.size=wa.heap.size+1:=by simp
       rw [aG]
       first|omega|(
        have h3:wa.heap.size<=w4.heap.size:=by (try simp at h1);omega
        omega)
      have H5:=zh (xA S5 (xA O5 (xA X5 hs5)));clear S4 O4 X4 t5 S5 O5 X5 hs5 SAL OAL XAL HOW hown hgr hat hlt4 hrw p4 f4 pa pb va HO p2 v1;go_wp2
      go_roundw
      .exact ⟨q+1,_,_,_,by omega,by go_num,HNQ,H5.o.1,H5.o.2.1,H5.o.2.2.1,H5.o.2.2.2⟩
      .simp [qf,intOf];omega
    .have hlt2':¬ (q:Int)<(sn:Int):=by omega
     have hqs:q=sn:=by omega
     have hRQ0:65536<=RQ:=by
      have:=hRQ.out;have h0:0<=(q:Int)*RW:=Int.mul_nonneg (by omega) (by omega);omega
     have hw:IntKind.i64.wrap (RQ-65536)=RQ-65536:=bC _ (by omega) (by omega);have S1:Lo w (wr.setCell (qR (w.heap.size+1+1+1+1) 3) (qI (Fl (aF ms) m))) sn c k d (Fl (aF ms) m) RQ #[qS a0 m c0,qI (65536+Ra (aF ms) m),qS a2 q c2,qI (Fl (aF ms) m),qI 0,qS none 0 0]:=S.set 3 (qI (Fl (aF ms) m));have S2:Lo w ((wr.setCell (qR (w.heap.size+1+1+1+1) 3) (qI (Fl (aF ms) m))).setCell (qR (w.heap.size+1+1+1+1) 4) (qI (RQ-65536))) sn c k d (Fl (aF ms) m) RQ #[qS a0 m c0,qI (65536+Ra (aF ms) m),qS a2 q c2,qI (Fl (aF ms) m),qI (RQ-65536),qS none 0 0]:=S1.set 4 (qI (RQ-65536));have t1:Turn (fun j=>j=w.heap.size+4) wr (wr.setCell (qR (w.heap.size+1+1+1+1) 3) (qI (Fl (aF ms) m))):=aC wr (w.heap.size+4) 3 (qI (Fl (aF ms) m));have t2:Turn (fun j=>j=w.heap.size+4) (wr.setCell (qR (w.heap.size+1+1+1+1) 3) (qI (Fl (aF ms) m))) ((wr.setCell (qR (w.heap.size+1+1+1+1) 3) (qI (Fl (aF ms) m))).setCell (qR (w.heap.size+1+1+1+1) 4) (qI (RQ-65536))):=aC _ (w.heap.size+4) 4 (qI (RQ-65536));have t12:=t1.trans t2;have O2:=O.kept t12 (fun k hk e=>by have:=(O.lt k hk).1;have e':k=w.heap.size+4:=e;omega);have X2:=PX.kept t12 (fun k hk e=>by have:=(PX.lt.1 k hk).1;have e':k=w.heap.size+4:=e;omega) (fun x hx k hk e=>by have:=(PX.lt.2 x hx k hk).1;have e':k=w.heap.size+4:=e;omega);have a0c:=S.k2.e0;have b0c:=S1.k3.e0;have b0c':=S.k3.e0;have l3:=S.k4.e3;have n3:=S.k4.frozen 3;have l4:=S1.k4.e4;have l4':=S.k4.e4;have n4:=S1.k4.frozen 4;have n4':=S.k4.frozen 4;obtain ⟨v0,v1,v2,v3,v4,v5⟩:=S2.k4.z6;obtain ⟨u0,u1,u2,u3,u4,u5⟩:=S2.k1.z6;have z0:=S2.k1.frozen 0;have z1:=S2.k1.frozen 1;have z2:=S2.k1.frozen 2;have z3:=S2.k1.frozen 3;have z4:=S2.k1.frozen 4;have z5:=S2.k1.frozen 5
     have HLAY:=zh (show lay (aF ms) sn c k=⟨(List.range m).map (plc (aF ms)),(65536+Ra (aF ms) m),(List.range q).map (slt (aF ms) c k),(Fl (aF ms) m),RQ-65536,(List.range m).map fun i=>tgs (aF ms) ((aF ms).getD i zP)⟩ by
      unfold lay;rw [hpl,hRQ.out,HRW.o,xY,hqs];congr 1
      omega)
     have t26:=dI ((wr.setCell (qR (w.heap.size+1+1+1+1) 3) (qI (Fl (aF ms) m))).setCell (qR (w.heap.size+1+1+1+1) 4) (qI (RQ-65536))) (w.heap.size+1) (qS a0 m c0) (qI (65536+Ra (aF ms) m)) (qS a2 q c2) (qI (Fl (aF ms) m)) (qI (RQ-65536)) (qS none 0 0);have X26:=X2.kept t26 (fun k hk e=>by have:=(X2.lt.1 k hk).1;have e':k=w.heap.size+1:=e;omega) (fun x hx k hk e=>by have:=(X2.lt.2 x hx k hk).1;have e':k=w.heap.size+1:=e;omega);have O26:=O2.kept t26 (fun k hk e=>by have:=(O2.lt k hk).1;have e':k=w.heap.size+1:=e;omega);have B26:=aI S2.be t26 (fun j hj=>by have e':j=w.heap.size+1:=hj;omega) S2.be.size;have SP:∀ j,(qS a2 q c2).ownBlock=some j->∀ x∈xs,(svP x).ownBlock≠some j:=fun j hj x hx e=>by have h1:=(O.lt j hj).1;have h2:=HXL.o x hx j e;omega
     have HFIN:=zh (xA S2.k1 (xA X26 (xA O26 (xA B26 SP))));clear S S1 S2 t1 t2 t12 O PX O2 X2 t26 X26 O26 B26 SP hqs hRQ;go_wp2;refine aHa HFIN.o.1 _ _ _ _ _ _ _ _ rfl ?_;obtain ⟨_,X26,O26,B26,SP⟩:=HFIN.o;refine ⟨B26,a0,c0,xs,a2,c2,?_,?_⟩
     .unfold mC;rw [HLAY.o,HXX.o.1];simp
     .rw [HLAY.o];exact ⟨by rw [HXX.o.1];exact X26.mono (by omega) (by omega),HXX.o.2,by simpa using O26.mono (by omega),wO,rfl,by simpa using SP⟩
structure Kin (w W:qw)(s c k d:Int):Prop where
 be:qY w W
 k0:Blk W w.heap.size (qW s c k d) 25
 k1:Blk W (w.heap.size+1) zL 64
theorem Kin.bw {w W W':qw}{c:Int}(h:Kin w W s c k d)(hb:qY W W'):Kin w W' s c k d:=⟨h.be.trans (hb.mono h.be.size),h.k0.bw hb,h.k1.bw hb⟩
theorem Kin.drew {w W:qw}{c:Int}(h:Kin w W s c k d):Kin w W.drew s c k d:=⟨h.be.drew,h.k0,h.k1⟩
theorem aKh (w:qw)(s c k d:Int):Kin w ((w.alloc (.cells (qW s c k d) 25)).alloc (.cells qz 64)) s c k d:=by
 have k0:=Blk.new w (qW s c k d) 25;have b0:qY w (w.alloc (.cells (qW s c k d) 25)):=bal;have s0:(w.alloc (.cells (qW s c k d) 25)).heap.size=w.heap.size+1:=by simp
 generalize w.alloc (.cells (qW s c k d) 25)=W0 at *;have k1:=Blk.new W0 qz 64;have b1:qY W0 (W0.alloc (.cells qz 64)):=bal;rw [s0] at k1;exact ⟨b0.trans (b1.mono (by omega)),k0.bw b1,k1⟩
theorem uX {w W:qw}(k1:Blk W (w.heap.size+1) zL 64)(v0 v1 v2 v3 v4 v5:Value)(V:Int)(Q:Ending->World->Prop)(tmps:Array Value)(h4:tmps[4]?=some (.pointer (some (qR (w.heap.size+1) 0))))(h5:tmps[5]?=some (qI V))(hQ:Q (.returned (.tuple #[.agg #[v0,v1,v2,v3,v4,v5],qI V])) (st6 W (w.heap.size+1) v0 v1 v2 v3 v4 v5)):
 bodyPost prog f24 Q Exit.ret ⟨tmps,[]⟩ (st6 W (w.heap.size+1) v0 v1 v2 v3 v4 v5):=by
 have k:=kF k1 v0 v1 v2 v3 v4 v5;obtain ⟨t0,t1,t2,t3,t4,t5⟩:=k.z6;refine bodyPost_ret_by (v:=.tuple #[.agg #[v0,v1,v2,v3,v4,v5],qI V]) ?_ rfl hQ;simp [results,results24,go_sem,h4,h5,t0,t1,t2,t3,t4,t5]
theorem jH {w W:qw}{c V:Int}(S:Kin w W s c k d)(hV:lkc ps s c k d=V)(h0:V≠0)(tmps:Array Value)(h4:tmps[4]?=some (.pointer (some (qR (w.heap.size+1) 0))))(h5:tmps[5]?=some (qI V)):
 bodyPost prog f24 (LkM w ps s c k d) Exit.ret ⟨tmps,[]⟩ (st6 W (w.heap.size+1) (qS none 0 0) (qI 0) (qS none 0 0) (qI 0) (qI 0) (qS none 0 0)):=
 uX S.k1 _ _ _ _ _ _ V _ tmps h4 h5 (aDq (aI S.be (dI _ _ _ _ _ _ _ _) (fun j hj=>by have e:j=w.heap.size+1:=hj;omega) S.be.size) hV h0)
theorem vR (L:Lay)(a0:qO)(c0:Nat)(xs:List PB)(a2:qO)(c2:Nat)(a5:qO)(c5:Nat)(ts:List TB)(w:qw)(h:LyT w L a0 c0 xs a2 c2 a5 c5 ts):
 qC 101 #[.agg (qL L a0 xs.length c0 a2 L.slots.length c2 a5 ts.length c5)] w (qB w (qI (cV L))):=by
 have HB:Zh (qY w (w.alloc (.cells (qL L a0 xs.length c0 a2 L.slots.length c2 a5 ts.length c5) 64))):=brf.alloc aL _;have hs:=h.s.bw HB.o;have hmx:=h.s.2.1;unfold maxLen at hmx;unfold cV;by_cases c:L.slots=[]
 .rw [if_pos c];have hl:L.slots.length=0:=by rw [c];rfl
  rw [hl];rw [hl] at HB;go_enter func101,ntmps101
  go_wp2;go_ret;exact ⟨rfl,HB.o⟩
 .rw [if_neg c];have hl:0<L.slots.length:=List.length_pos_iff.2 c;have hl':(0:Int)<(L.slots.length:Int):=by omega
  obtain ⟨b,off,rfl,hc⟩:=hs.2.2.2.1 (by omega);have q:=hc 0 hl;rw [Nat.add_zero] at q;generalize L.slots.length=n at *;generalize L.slots.getD 0 0=z at *;clear hs hc c;go_enter func101,ntmps101
  go_wp2;go_ret;exact ⟨rfl,HB.o⟩
def pcm (ms:List Md)(m b:Int):Int:=if 0<=m/\m<(ms.length:Int) then pcn (ms.getD m.toNat zMd).tn (ms.getD m.toNat zMd).bn (ms.getD m.toNat zMd).bl b else -1
theorem jI (a:qO)(n cap:Nat)(ms:List Md)(m b:Int)(w:qw)(h:MS w a n cap ms):
 qC 113 #[qS a n cap,qI m,qI b] w (qB w (.bool (decide (0<=pcm ms m b)))):=by
 have hn:=h.1;have hm:=h.2.1;unfold maxLen at hm;have HB:=zh (Below.refl w.heap.size w);by_cases c1:m<0
 .have HP:=zh (show decide (0<=pcm ms m b)=false by unfold pcm;rw [if_neg (by omega)];rfl);rw [HP.o];clear hn;have HU:=zh (cU m ((n:Int)-1));go_enter func113,ntmps113
  go_wp2_with (go_at_call 50;refine (HU.o _).mono ?_;rintro e w2 ⟨rfl,rfl⟩;rw [xS (by omega)])
  go_ret;exact ⟨rfl,HB.o⟩
 .by_cases c2:(n:Int)<=m
  .have HP:=zh (show decide (0<=pcm ms m b)=false by unfold pcm;rw [if_neg (by omega)];rfl);rw [HP.o];clear hn;have HU:=zh (cU m ((n:Int)-1));go_enter func113,ntmps113
   go_wp2_with (go_at_call 50;refine (HU.o _).mono ?_;rintro e w2 ⟨rfl,rfl⟩;rw [xS (by omega)])
   go_ret;exact ⟨rfl,HB.o⟩
  .have HP:=zh (show pcm ms m b=pcn (ms.getD m.toNat zMd).tn (ms.getD m.toNat zMd).bn (ms.getD m.toNat zMd).bl b by unfold pcm;rw [if_pos (by omega)]);rw [HP.o];clear HP;obtain ⟨g,off,rfl,q0,q1,q2,q3,q4,q5,q6,q7⟩:=h.at m.toNat (by omega);have hmt:=h.2.2.2.1 m.toNat (by omega);generalize ms.getD m.toNat zMd=M at *;have HC:=zh (gC M.nm M.ta M.tn M.tc M.ba M.bn M.bc M.bl (qS M.da M.dn M.dc) (qS M.ra M.rn M.rc) (qS M.ia M.im M.ic) (qS M.ea M.en M.ec) M.bss b w hmt.t.2.1 hmt.b);have c1':0<=m:=by omega
   have c2':m<(n:Int):=by omega
   clear hn hmt h;have HU:=zh (cU m ((n:Int)-1));go_enter func113,ntmps113
   go_wp2_with (go_at_call 50;refine (HU.o _).mono ?_;rintro e w2 ⟨rfl,rfl⟩;rw [xR (by omega)])
   refine HC.o.mono ?_;rintro e w' ⟨xa,xn,xc,ok,rfl,ho,_,_,hB⟩;have HO:=zh ho;clear ho;go_wp2;go_ret;exact ⟨aB HO.o,hB⟩
def fW (L:Lay)(P:PB)(b s:Int):Int:=if b=-1 then P.1.text else if s=-1 then P.1.banks.getD b.toNat 0 else L.slots.getD s.toNat 0
theorem wN (L:Lay)(a0:qO)(c0:Nat)(xs:List PB)(a2:qO)(c2:Nat)(a5:qO)(c5:Nat)(ts:List TB)(m b at' s:Int)(w:qw)(h:LyT w L a0 c0 xs a2 c2 a5 c5 ts)
 (hm0:0<=m) (hm1:m<(xs.length:Int)) (hb:b=-1\/(0<=b/\b<((xs.getD m.toNat zPB).1.banks.length:Int))) (hs:s=-1\/(b≠-1/\0<=s/\s<(L.slots.length:Int))):
 qC 102 #[.agg (qJ L a0 xs c0 a2 c2 a5 ts c5),.agg (qT m b at'),qI s] w (qB w (qI (fW L (xs.getD m.toNat zPB) b s))):=by
 obtain ⟨W,hW⟩:=eqx ((w.alloc (.cells (qJ L a0 xs c0 a2 c2 a5 ts c5) 64)).alloc (.cells (qT m b at') 106));have hB:qY w W:=by rw [hW];exact bal.alloc (by simp) _
 have HB:=zh hB;have h1:=h.bw hB;have k0:Blk W w.heap.size (qJ L a0 xs c0 a2 c2 a5 ts c5) 64:=by rw [hW];exact (Blk.new w _ _).alloc _
 have k1:Blk W (w.heap.size+1) (qT m b at') 106:=by rw [hW];have:=Blk.new (w.alloc (.cells (qJ L a0 xs c0 a2 c2 a5 ts c5) 64)) (qT m b at') 106;simpa using this
 have hz:W.heap.size=w.heap.size+1+1:=by rw [hW];simp
 have HZ:=zh hz;clear hz;have d0:=k0.e0;have d2:=k0.e2;have t0:=k1.e0;have t1:=k1.e1;obtain ⟨g,off,rfl,q0,q1,q2,q3⟩:=h1.p.at m.toNat (by omega);have hbk:=h1.p.2.2.2.1 m.toNat (by omega);have hsl:=h1.s;have hmx:=h1.p.2.1;have hmy:=hsl.2.1;have hmz:=hbk.2.1;unfold maxLen at hmx hmy hmz;unfold svP at q1;generalize xs.getD m.toNat zPB=P at *;have HW:=zh hW;clear hW hB k0 k1 h1 h;rcases hb with rfl|⟨hb0,hb1⟩
 .obtain rfl:s=-1:=by rcases hs with h|h;exact h;exact absurd rfl h.1
  have HO:Zh (fW L P (-1) (-1)=P.1.text):=rfl;rw [HO.o];clear hs hbk hsl;generalize P.1.text=x at *;generalize xs.length=n at *;generalize L.slots.length=l at *;go_enter func102,ntmps102
  go_wp2_with (rw [<- HW.o])
  go_ret;exact ⟨rfl,(by first|exact HB.o|exact HB.o.drew)⟩
 .have hb2:¬ b=-1:=by omega
  have hb3:(b == -1)=false:=by simpa using hb2
  rcases hs with rfl|⟨_,hs0,hs1⟩
  .have HO:=zh (show fW L P b (-1)=P.1.banks.getD b.toNat 0 by unfold fW;rw [if_neg hb2,if_pos rfl]);rw [HO.o];obtain ⟨u,v,e,hc⟩:=hbk.2.2.2.1 (by omega);have qq:=hc b.toNat (by omega);rw [e] at q1;clear hbk hsl e hc HO;generalize P.1.banks.getD b.toNat 0=x at *;generalize P.1.banks.length=y at *;generalize xs.length=n at *;generalize L.slots.length=l at *;go_enter func102,ntmps102
   go_wp2_with (rw [<- HW.o])
   go_region_held3 (fun w'=>w'.cell? (qR w.heap.size 0)=some (qS (some (qR g off)) n c0)/\w'.cell? (qR (w.heap.size+1) 0)=some (qI m)/\w'.cell? (qR (w.heap.size+1) 1)=some (qI b)/\w'.cell? (qR g (off+m.toNat*4+1))=some (qS (some (qR u v)) y P.2.2)/\w'.cell? (qR u (v+b.toNat))=some (qI x)) (go_keep) (fail)
   go_wp2;go_ret;exact ⟨rfl,(by first|exact HB.o|exact HB.o.drew)⟩
  .have hs2:¬ s=-1:=by omega
   have hs3:(s == -1)=false:=by simpa using hs2
   have HO:=zh (show fW L P b s=L.slots.getD s.toNat 0 by unfold fW;rw [if_neg hb2,if_neg hs2]);rw [HO.o];obtain ⟨u,v,e,hc⟩:=hsl.2.2.2.1 (by omega);have qq:=hc s.toNat (by omega);rw [e] at d2;clear hbk hsl e hc HO;generalize L.slots.getD s.toNat 0=x at *;generalize P.1.banks.length=y at *;generalize xs.length=n at *;generalize L.slots.length=l at *;go_enter func102,ntmps102
   go_wp2_with (rw [<- HW.o])
   go_ret;exact ⟨rfl,(by first|exact HB.o|exact HB.o.drew)⟩
theorem aG2 {zs:qi}{v:Int}(h:v∈zs):∃ k,k<zs.length/\zs.getD k 0=v:=by
 obtain ⟨k,hk,e⟩:=List.mem_iff_getElem.1 h;exact ⟨k,hk,by simp [xB,hk,e]⟩
theorem vD {zs:qi}{k:Nat}(h:k<zs.length):zs.getD k 0∈zs:=by
 simp [xB,h]
theorem pJ (n:Int)(h:-9223372036854775808<=n/\n<=9223372036854775807:=by omega):wrap64 n=n:=by unfold wrap64;omega
theorem gE {w:Int}:lkc ps s w k d=0 ↔ cfo s w k d=true/\1<=ps.length/\ps.length<=4/\fV ps/\nms ps/\kI ps/\(0<s->lB ps w)/\(lay ps s w k).flash<=16384/\(lay ps s w k).ram<=16384:=by
 constructor
 .intro h;unfold lkc dB at h;by_cases c1:cfo s w k d=false
  .rw [if_pos c1] at h;simp at h
  rw [if_neg c1] at h;by_cases c2:ps.length<1\/4<ps.length
  .rw [if_pos c2] at h;simp at h
  rw [if_neg c2] at h;by_cases c3:¬ fV ps
  .rw [if_pos c3] at h;simp at h
  rw [if_neg c3] at h;by_cases c4:¬ nms ps
  .rw [if_pos c4] at h;simp at h
  rw [if_neg c4,if_neg (by simp)] at h;by_cases c5:¬ kI ps
  .rw [if_pos c5] at h;simp at h
  rw [if_neg c5] at h;by_cases c6:0<s/\¬ lB ps w
  .rw [if_pos c6] at h;simp at h
  rw [if_neg c6] at h;by_cases c7:16384<(lay ps s w k).flash
  .rw [if_pos c7] at h;simp at h
  rw [if_neg c7] at h;by_cases c8:16384<(lay ps s w k).ram
  .rw [if_pos c8] at h;simp at h
  exact ⟨by simpa using c1,by omega,by omega,xZ.1 c3,xZ.1 c4,xZ.1 c5,fun h=>xZ.1 (fun e=>c6 ⟨h,e⟩),by omega,by omega⟩
 .rintro ⟨h1,h2,h3,h4,h5,h6,h7,h8,h9⟩;have e0:dB ps s w k d=0:=by unfold dB;rw [if_neg (by simp [h1]),if_neg (by omega),if_neg (fun e=>e h4),if_neg (fun e=>e h5)]
  unfold lkc;rw [if_neg (by rw [e0];simp),if_neg (fun e=>e h6),if_neg (fun e=>e.2 (h7 e.1)),if_neg (by omega),if_neg (by omega)]
theorem aNu {w w':Int}(h:s=0\/rnd (4*w)=rnd (4*w')):lay ps s w k=lay ps s w' k:=by
 rcases h with rfl|h
 .simp [lay]
 .have e:slt ps w k=slt ps w' k:=by funext i;unfold slt;rw [h]
  unfold lay;rw [h,e]
theorem xV {w:Int}(h:lkc ps s w k d=0):Lok ps (lay ps s w k):=by
 obtain ⟨h1,h2,h3,h4,h5,h6,h7,h8,h9⟩:=gE.1 h;have hc:=h1;unfold cfo at hc;simp at hc;obtain ⟨s0,s1,w0,w1,k0,k1,k2,d0,d1⟩:=hc;have a1:=bP h4 ps.length aL;have a4:=bA (x:=4*w);have hr:(lay ps s w k).ram=Ra ps ps.length+k+(s.toNat:Int)*rnd (4*w):=rfl;have ht:(lay ps s w k).stack=65536+Ra ps ps.length:=rfl;have hl:(lay ps s w k).slots.length=s.toNat:=by simp [lay]
 have main:∀ w',cfW (lay ps s w k)=w'->(s=0\/rnd (4*w)=rnd (4*w'))->1<=w'->w'<=64->(0<s->w<=w')->cfK (lay ps s w k)=k->Lok ps (lay ps s w k):=by
  intro w' e1 e2 e3 e4 e5 e6;have el:=aNu (ps:=ps) (k:=k) e2;have hs:((s.toNat:Nat):Int)=s:=by omega
  have hz:lkc ps s w' k 0=0:=gE.2 ⟨by unfold cfo;simp;omega,h2,h3,h4,h5,h6,fun hs i hi j hj=>Int.le_trans (h7 hs i hi j hj) (e5 hs),by rw [<- el];exact h8,by rw [<- el];exact h9⟩;unfold Lok;rw [hl,hs,e1,e6];exact ⟨hz,by unfold lkL;rw [if_pos hz,el]⟩
 by_cases c:s=0
 .subst c;have e0:(lay ps 0 w k).slots=[]:=by simp [lay]
  have hr0:(lay ps 0 w k).ram=Ra ps ps.length+k:=by rw [hr];simp
  refine main 1 (by unfold cfW;rw [if_pos e0]) (.inl rfl) (by omega) (by omega) (fun h=>absurd h (by omega)) ?_;unfold cfK cV;rw [if_pos e0,hr0,ht,pJ (65536+(Ra ps ps.length+k)),pJ _];omega
 .have hp:0<s.toNat:=by omega
  have hne:¬ (lay ps s w k).slots=[]:=fun e=>by rw [e] at hl;simp at hl;omega
  have e0:(lay ps s w k).slots.getD 0 0=65536+Ra ps ps.length+k:=by
   simp [lay,xB,hp,slt]
  have hm:(s.toNat:Int)*rnd (4*w)<=4*287:=Int.mul_le_mul (by omega) (by omega) (by omega) (by omega);have hm0:(0:Int)<=(s.toNat:Int)*rnd (4*w):=Int.mul_nonneg (by omega) (by omega)
  have eq:cfQ (lay ps s w k)=rnd (4*w):=by
   unfold cfQ;rw [hr,e0,hl,pJ (65536+_),pJ (65536+_-_),show 65536+(Ra ps ps.length+k+(s.toNat:Int)*rnd (4*w))-(65536+Ra ps ps.length+k)=rnd (4*w)*(s.toNat:Int) by rw [Int.mul_comm (rnd (4*w))];omega,Int.mul_tdiv_cancel _ (by omega),pJ _]
  have hrn:rnd (4*w)=(4*w+31)/32*32:=rfl;refine main (rnd (4*w)/4) ?_ (.inr ?_) (by omega) (by omega) (fun _=>by omega) ?_
  .unfold cfW;rw [if_neg hne,eq,Int.tdiv_eq_ediv_of_nonneg (by omega),pJ _]
  .rw [hrn];unfold rnd;omega
  .unfold cfK cV;rw [if_neg hne,e0,ht,pJ _];omega
def gZ (bl:List Bk)(k:Nat):List Int:=(bl.take k).flatMap fun b=>jC b.2.2.2
def mP (ss:List ByteArray)(k:Nat):List Int:=(ss.take k).flatMap iS
def yV (x:Ex):List Int:=iS x.1++(bM (x.2.1+1) 1++bM x.2.2 2)
def oG (es:List Ex)(k:Nat):List Int:=(es.take k).flatMap yV
theorem nL {α:Type}(f:α->List Int)(l:List α)(z:α)(k:Nat)(h:k<l.length):(l.take (k+1)).flatMap f=(l.take k).flatMap f++f (l.getD k z):=by
 rw [List.take_succ_eq_append_getElem h,List.flatMap_append];simp [List.getD_eq_getElem?_getD,h]
def aKl (nm:ByteArray):List Int:=[88,77]++iS nm
def aBg (nm:ByteArray)(tz:List Int)(bn:Nat):List Int:=aKl nm++jC tz++bM bn 1
def yY (nm:ByteArray)(tz:List Int)(bn:Nat)(bl:List Bk)(dn:Nat)(dz:List Int)(bss:Int)(rn:Nat):List Int:=aBg nm tz bn++gZ bl bn++bM dn 2++dz++bM bss 2++bM rn 1
def yX (nm:ByteArray)(tz:List Int)(bn:Nat)(bl:List Bk)(dn:Nat)(dz:List Int)(bss:Int)(rn:Nat)(rz:List Int)(im:Nat):List Int:=yY nm tz bn bl dn dz bss rn++dT 2 rz rn++bM im 1
def aBf (nm:ByteArray)(tz:List Int)(bn:Nat)(bl:List Bk)(dn:Nat)(dz:List Int)(bss:Int)(rn:Nat)(rz:List Int)(im:Nat)(ss:List ByteArray)(en:Nat):List Int:=yX nm tz bn bl dn dz bss rn rz im++mP ss im++bM en 1
def aFm (nm:ByteArray)(tz:List Int)(bn:Nat)(bl:List Bk)(dn:Nat)(dz:List Int)(bss:Int)(rn:Nat)(rz:List Int)(im:Nat)(ss:List ByteArray)(en:Nat)(es:List Ex):List Int:=aBf nm tz bn bl dn dz bss rn rz im ss en++oG es en
structure Ew (w W:World)(mc:Array Value)(q n c:Nat)(out:List Int):Prop where
 box:Blk W w.heap.size mc 53
 o:OB W (w.heap.size+1) (.slice (some ⟨q,0,none⟩) n c) out
 bw:Below w.heap.size w W
 small:out.length<=40000
theorem Ew.step (h:Ew w W mc q n c out)(b:Below W.heap.size W W'):Ew w W' mc q n c out:=
 ⟨h.box.bw b,h.o.bw b,h.bw.trans (b.mono h.bw.size),h.small⟩
theorem Ew.len (h:Ew w W mc q n c out):out.length=n:=h.o.bs.1
theorem Ew.sz (h:Ew w W mc q n c out):w.heap.size+1<=W.heap.size:=by have:=h.box.lt;omega
theorem Ew.grow {d:Nat}(h:Ew w W mc q n c out)(hX:∀ z∈X,0<=z/\z<=255)(hm:X.length=m)(hs:n+m<=40000)
 (ho:W'.ownsRow (w.heap.size+1) 5 1 (.slice (some ⟨g,0,none⟩) (n+m) d) (n+m) (out.map (Value.int .u8)++X.map (Value.int .u8))) (hg:W.grownBy W' (Value.slice (some ⟨q,0,none⟩) n c).ownBlock):Ew w W' mc g (n+m) d (out++X):=by
 have hl:=h.len;have hq:∀ k,(Value.slice (some ⟨q,0,none⟩) n c).ownBlock=some k->w.heap.size+1<=k:=fun k hk=>(h.o.lt k hk).1;refine ⟨fD hg h.box (fun e=>by have:=hq _ e.symm;omega),wS h.o.2 hX (by rw [hl,hm];exact ho),h.bw.grown hg (by have:=h.sz;omega) (fun k hk=>by have:=hq k hk;omega),?_⟩;rw [List.length_append,hl,hm];exact hs
theorem Ew.app {K:Act->World->Prop}{Q:Exit->Act->World->Prop}(hE:Ew w W mc q n c out)(s x:Operand)
 (ho:o.op=.call { callee:=.builtin .append,args:=#[s,x],argTypes:=#[22,22] }) (hs:a.eval s=.slice (some ⟨q,0,none⟩) n c) (ad:Addr) (m cp:Nat) (hx:a.eval x=.slice (some ad) m cp) (hX:X.length=m) (hXr:∀ z∈X,0<=z/\z<=255) (hnews:∀ j u,(X.map (Value.int .u8))[j]?=some u->W.cell? (ad.add j)=some u) (hn:0<n) (hm:n+m<=40000)
 (h:∀ g d w',Ew w w' mc g (n+m) d (out++X)->K (a.put o.dst (.slice (some ⟨g,0,none⟩) (n+m) d)) w'):o.wp prog a W K Q:=by
 obtain ⟨i0,hi,hz0,hz1,hz2⟩:=info_parts gW;have o1:=hE.o.1;rw [hE.len] at o1;refine wp_append_own W s x 22 ho (w.heap.size+1) 5 i0 (.int .u8 0) 1 1 underlying22 hi hz0 hz1 hz2 rfl (by decide) (.slice (some ⟨q,0,none⟩) n c) n (out.map (Value.int .u8)) hs o1 ad m cp (X.map (Value.int .u8)) hx (by rw [List.length_map,hX,Nat.mul_one]) hnews (aDe _) (by unfold maxLen;omega) (by omega) (by have:=hE.sz;omega) ?_;intro v' w' hown hg _;obtain ⟨g,d,rfl,_⟩:=World.ownsRow.form hown (by omega);exact h g d w' (hE.grow hXr hX hm hown hg)
theorem jR {ops:Array Oper}{K:Act->World->Prop}{Q:Exit->Act->World->Prop}{E:Prop}(hE:Ew w W mc q n c out)(hgd:o.guard=none)(s x:Operand)
 (ho:o.op=.call { callee:=.builtin .append,args:=#[s,x],argTypes:=#[22,22] }) (hs:a.eval s=.slice (some ⟨q,0,none⟩) n c) (ad:Addr) (m cp:Nat) (hx:a.eval x=.slice (some ad) m cp) (hX:X.length=m) (hXr:∀ z∈X,0<=z/\z<=255) (hnews:∀ j u,(X.map (Value.int .u8))[j]?=some u->W.cell? (ad.add j)=some u) (hn:0<n) (hm:n+m<=40000)
 (h:∀ g d w',Ew w w' mc g (n+m) d (out++X)->K (a.put o.dst (.slice (some ⟨g,0,none⟩) (n+m) d)) w'):if Region.wanted o (yielded ops a.tmps)=true then Oper.wp prog o a W K Q else E:=by
 have hw:Region.wanted o (yielded ops a.tmps)=true:=by simp [Region.wanted,hgd]
 rw [if_pos hw];exact hE.app s x ho hs ad m cp hx hX hXr hnews hn hm h
theorem jV {ops:Array Oper}{rest:List Oper}{Q:Exit->Act->World->Prop}(hE:Ew w W mc q n c out)(hgd:o.guard=none)(s x:Operand)
 (ho:o.op=.call { callee:=.builtin .append,args:=#[s,x],argTypes:=#[22,22] }) (hs:a.eval s=.slice (some ⟨q,0,none⟩) n c) (ad:Addr) (m cp:Nat) (hx:a.eval x=.slice (some ad) m cp) (hX:X.length=m) (hXr:∀ z∈X,0<=z/\z<=255) (hnews:∀ j u,(X.map (Value.int .u8))[j]?=some u->W.cell? (ad.add j)=some u) (hn:0<n) (hm:n+m<=40000)
 (h:∀ g d w',Ew w w' mc g (n+m) d (out++X)->wpList prog ops Q rest (a.put o.dst (.slice (some ⟨g,0,none⟩) (n+m) d)) w'):wpList prog ops Q (o::rest) a W:=
 wpList_plain hgd fun _ hK=>hE.app s x ho hs ad m cp hx hX hXr hnews hn hm fun g d w' e=>hK _ _ (h g d w' e)
theorem aJv {t:TypeId}(h:OB W base (.slice (some ⟨q,0,none⟩) n c) out)(hb:Blk W q cs t):t=5:=by
 obtain ⟨hl,h0|⟨g,cap,cur,hv,hg,hh,_⟩⟩:=h.1
 .simp at h0
 .simp at hv;obtain ⟨rfl,_,_⟩:=hv;unfold Blk at hb;rw [hh] at hb;simp at hb;exact hb.2.symm
theorem pU {ops:Array Oper}{K:Act->World->Prop}{Q:Exit->Act->World->Prop}{E:Prop}(hE:Ew w W mc q n c out)(hgd:o.guard=none)(s x:Operand)
 (ho:o.op=.call { callee:=.builtin .append,args:=#[s,x],argTypes:=#[22,22] }) (hs:a.eval s=.slice (some ⟨q,0,none⟩) n c) (ad:Addr) (m cp:Nat) (hx:a.eval x=.slice (some ad) m cp) (hX:X.length=m) (hXr:∀ z∈X,0<=z/\z<=255) (hnews:∀ j u,(X.map (Value.int .u8))[j]?=some u->W.cell? (ad.add j)=some u) (hn:0<n) (hm:n+m<=40000)
 (h:∀ g d w',Ew w w' mc g (n+m) d (out++X)->(∀ k cs t,t≠5->Blk W k cs t->Blk w' k cs t)->K (a.put o.dst (.slice (some ⟨g,0,none⟩) (n+m) d)) w'):if Region.wanted o (yielded ops a.tmps)=true then Oper.wp prog o a W K Q else E:=by
 have hw:Region.wanted o (yielded ops a.tmps)=true:=by simp [Region.wanted,hgd]
 rw [if_pos hw];obtain ⟨i0,hi,hz0,hz1,hz2⟩:=info_parts gW;have o1:=hE.o.1;rw [hE.len] at o1;refine wp_append_own W s x 22 ho (w.heap.size+1) 5 i0 (.int .u8 0) 1 1 underlying22 hi hz0 hz1 hz2 rfl (by decide) (.slice (some ⟨q,0,none⟩) n c) n (out.map (Value.int .u8)) hs o1 ad m cp (X.map (Value.int .u8)) hx (by rw [List.length_map,hX,Nat.mul_one]) hnews (aDe _) (by unfold maxLen;omega) (by omega) (by have:=hE.sz;omega) ?_;intro v' w' hown hg _;obtain ⟨g,d,rfl,_⟩:=World.ownsRow.form hown (by omega);refine h g d w' (hE.grow hXr hX hm hown hg) (fun k cs t ht hb=>fD hg hb (fun e=>?_));have e':some k=some q:=e;injection e' with e'
 subst e';exact ht (aJv hE.o hb)
theorem Blk.mod {v0 v1 v2 v3 v4 v5 v6 v7:Value}{t:TypeId}(h:Blk w g #[v0,v1,v2,v3,v4,v5,v6,v7] t):w.cell? ⟨g,0,none⟩=some v0/\w.cell? ⟨g,1,none⟩=some v1/\w.cell? ⟨g,2,none⟩=some v2/\w.cell? ⟨g,3,none⟩=some v3/\w.cell? ⟨g,4,none⟩=some v4/\w.cell? ⟨g,5,none⟩=some v5/\w.cell? ⟨g,6,none⟩=some v6/\w.cell? ⟨g,7,none⟩=some v7:=
 ⟨h.cell 0,h.cell 1,h.cell 2,h.cell 3,h.cell 4,h.cell 5,h.cell 6,h.cell 7⟩
theorem aMf (w:World)(base:Nat)(hb:base<=w.heap.size)(x y:Int)(hx:0<=x/\x<=255)(hy:0<=y/\y<=255):OB (w.alloc (.cells #[.int .u8 x,.int .u8 y] 5)) base (.slice (some ⟨w.heap.size,0,none⟩) 2 2) [x,y]:=
 ⟨⟨rfl,.inr ⟨w.heap.size,2,#[.int .u8 x,.int .u8 y],rfl,hb,heap_alloc_new w _,Nat.le_refl _,by unfold maxLen;omega,rfl,rfl⟩⟩,fun z hz=>by
  simp at hz;rcases hz with rfl|rfl
  .exact hx
  .exact hy⟩
def aM9 (w:World)(zs:List Int)(e:Ending)(w':World):Prop:=∃ a n c,e=.returned (.slice a n c)/\OB w' w.heap.size (.slice a n c) zs/\Below w.heap.size w w'/\zs.length<=40000
