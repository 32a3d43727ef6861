import Derived.Test.YtncccmeomcaabaaGreatR11
set_option linter.all false
set_option maxHeartbeats 20000000
namespace Go.Proofs.YtncccmeomcaabaaGreat
open Go.RowKit Classical
open Go.Proofs.Tryz
set_option maxRecDepth 100000
variable {S:Nat->Prop}{base cap g i j n:Nat}{c d fx k rx s:Int}{cs:Array Value}{f:Nat->TB}{v:Value}{β:Nat->Nat}
theorem rV (g:Nat)(x:Int)(a:qO)(n cap:Nat)(w:qw)(h:Blk w g #[qI x,.func (.func 199) #[] #[]] 242)(hx0:0<=x)(hx1:x<=1000000)(hn:n<=65535):
 qC 213 #[.pointer (qP g),qS a n cap] w fun e w'=>e=.returned (qI x)/\Blk w' g #[qI (x+rnd (4*(n:Int))),.func (.func 199) #[] #[]] 242/\Turn (fun j=>j=g) w w':=by
 have c0:=h.e0;have c1:=h.e1;have f0:=h.frozen 0;have rR:=aR (x:=4*(n:Int));obtain ⟨RR,hRR⟩:=eqx (rnd (4*(n:Int)));have HW:=zh (fun W=>lN a n cap W (by omega));rw [<- hRR] at rR HW ⊢;have hw:IntKind.i64.wrap (x+RR)=x+RR:=bY _ (by omega) (by omega);have HF:Zh (Blk ((w.setCell (qR g 0) (qI (x+RR))).drew) g #[qI (x+RR),.func (.func 199) #[] #[]] 242/\Turn (fun j=>j=g) w ((w.setCell (qR g 0) (qI (x+RR))).drew)):=⟨h.set 0 (qI (x+RR)),mL (aC w g 0 (qI (x+RR)))⟩;clear h hRR;go_enter func213,ntmps213
 go_wp2_with fail
 go_region_law (first
  | (go_simp;go_at_call 199;refine (HW.o _).mono ?_;rintro e wz ⟨rfl,rfl⟩))
 all_goals
  go_wp2;go_ret;exact ⟨rfl,HF.o.1,HF.o.2⟩
theorem mA (g:Nat)(x v:Int)(w:qw)(h:Blk w g #[qI x,.func (.func 212) #[] #[]] 244)(hx0:0<=x:=by omega)(hx1:x<=1000000:=by omega)(hv0:0<=v:=by omega)(hv1:v<=1000000:=by omega):
 qC 215 #[.pointer (qP g),qI v] w fun e w'=>e=.returned (qI x)/\Blk w' g #[qI (x+rnd v),.func (.func 212) #[] #[]] 244/\Turn (fun j=>j=g) w w':=by
 have c0:=h.e0;have c1:=h.e1;have f0:=h.frozen 0;have rR:=aR hv0;obtain ⟨RR,hRR⟩:=eqx (rnd v);have HW:=zh (fun W=>gP v W hv0);rw [<- hRR] at rR HW ⊢;have hw:IntKind.i64.wrap (x+RR)=x+RR:=bY _ (by omega) (by omega);have HF:Zh (Blk ((w.setCell (qR g 0) (qI (x+RR))).drew) g #[qI (x+RR),.func (.func 212) #[] #[]] 244/\Turn (fun j=>j=g) w ((w.setCell (qR g 0) (qI (x+RR))).drew)):=⟨h.set 0 (qI (x+RR)),mL (aC w g 0 (qI (x+RR)))⟩;clear h hRR;go_enter func215,ntmps215
 go_wp2_with fail
 go_region_law (first
  | (go_simp;go_at_call 212;refine (HW.o _).mono ?_;rintro e wz ⟨rfl,rfl⟩))
 all_goals
  go_wp2;go_ret;exact ⟨rfl,HF.o.1,HF.o.2⟩
def bkx (P:PMod)(x:Int)(k:Nat):List Int:=(List.range k).map fun j=>x+cA P j
theorem lH (P:PMod)(x:Int)(k:Nat):(bkx P x k).length=k:=by simp [bkx]
theorem aK5 (P:PMod)(x:Int)(k:Nat):bkx P x (k+1)=bkx P x k++[x+cA P k]:=by simp [bkx,List.range_succ]
theorem zX (g:Nat)(x:Int)(P:PMod)(ba:qO)(bc:Nat)(bl:List Bk)(w0 w:qw)(h:Blk w g #[qI x,.func (.func 199) #[] #[]] 242)(hP:fA P=0)(hx0:0<=x)(hx1:x<=900000)(hB:qY w0 w)(hg:w0.heap.size<=g)(hb:BKS w0 ba P.bl.length bc bl)(hlen:∀ j,j<P.bl.length->(bl.getD j zB).2.1=(P.bl.getD j []).length):
 qC 214 #[.pointer (qP g),qS ba P.bl.length bc] w fun e w'=>∃ a' c',e=.returned (qS a' P.bl.length c')/\OG 3 1 clI w' w.heap.size (qS a' P.bl.length c') (bkx P x P.bl.length)/\Blk w' g #[qI (x+cA P P.bl.length),.func (.func 199) #[] #[]] 242/\Turn (fun j=>j=g) w w':=by
 obtain ⟨iI,hiI,hz0,hz1,hz2⟩:=info_parts jL;obtain ⟨_,_,_,vb,_,_,_,vbk⟩:=bZ hP;have HFS:=zh (fun k hk=>cC hP k hk);have HBB:=zh (fun (W:qw) (t:Turn (fun j=>j=g) w W)=>hb.bw (aG hB t (fun j hj=>by have e:j=g:=hj;omega) hB.size));have HLEN:=zh hlen;have hgl:=h.lt;have HH:=zh h;clear h hb hlen hB hP;go_enter func214,ntmps214
 go_wp2;go_loopw [5,10] (fun v i wr=>∃ (q:Nat) (a':qO) (c':Nat),q<=P.bl.length/\i=qI q/\v=qS a' q c'/\OG 3 1 clI wr w.heap.size (qS a' q c') (bkx P x q)/\Blk wr g #[qI (x+cA P q),.func (.func 199) #[] #[]] 242/\Turn (fun j=>j=g) w wr) (fun _ i _=>P.bl.length-(intOf i).toNat)
 .exact ⟨0,none,0,xC _,rfl,rfl,fI _ _ _ _ _,by have:=HH.o;rw [show x+cA P 0=x by simp [cA]];exact this,Turn.refl _ _⟩
 .obtain ⟨q,a',c',hq,rfl,rfl,O,B,T⟩:=hrel;by_cases hlt:q<P.bl.length
  .have hlt':(q:Int)<(P.bl.length:Int):=by omega
   obtain ⟨_,_,hcb,_,_⟩:=HBB.o wr T;obtain ⟨b2,off2,rfl,hc⟩:=hcb (by omega);have cb:=hc q hlt;rw [HLEN.o q hlt] at cb;have hLq:=vbk q hlt;obtain ⟨LQ,hLQ⟩:=eqx ((P.bl.getD q []).length);rw [<- hLQ] at cb hLq;have rq:=HFS.o q (by omega);have HFE:=zh (show x+cA P q+rnd (4*(LQ:Int))=x+cA P (q+1) by rw [hLQ];show _=x+(cA P q+rnd (4*((P.bl.getD q []).length:Int)));omega);have HSU:=zh (aK5 P x q);obtain ⟨xq,hxq⟩:=eqx (x+cA P q);rw [<- hxq] at HFE HSU B;have rxq:0<=xq/\xq<=1000000:=by omega
   generalize bl.getD q zB=bq at cb;obtain ⟨bq1,bq2,bq3,bq4⟩:=bq;dsimp only at cb;have HPL:=zh (rV g xq bq1 LQ bq3 wr B (by omega) (by omega) (by omega));have HQ:=zh (xA O T);clear hcb hc hLQ hxq O B T;go_wp2_with fail
   refine HPL.o.mono ?_;rintro e w1 ⟨rfl,B1,T1⟩;obtain ⟨O,T⟩:=HQ.o;have O1:=O.turn T1 (fun j hj=>by have e:j=g:=hj;omega);have T2:=T.trans T1;have al:qY w1 (w1.alloc (.cells #[qI xq] 3)):=bal;have HOW:=zh (show (w1.alloc (.cells #[qI xq] 3)).ownsRow w.heap.size 3 1 (qS a' q c') q ((bkx P x q).flatMap clI) by have:=O1.bw al;unfold OG at this;rw [lH] at this;exact this);have hs1:=T2.size;have HR:=zh (xA (O1.bw al) (xA (B1.bw al) (T2.trans (aJ al))));clear O T O1 T2 al B1 T1 HPL HQ cb;go_wp2_with (at_builtin;refine wpList_append_own _ rfl _ _ 25 rfl w.heap.size 3 iI (qI 0) 1 8 underlying25 hiI hz0 hz1 hz2 rfl (by decide) (qS a' q c') q ((bkx P x q).flatMap clI) rfl HOW.o (qR w1.heap.size 0) 1 1 (clI xq) rfl rfl (bS w1 _ _ (clI xq) rfl) (by intro u hu;simp [clI] at hu;subst hu;rfl) (by unfold maxLen;omega) (by omega) (by simp;omega) ?_;intro v' w4 hown hgr _)
   obtain ⟨O1,B1,T1⟩:=HR.o;have hrow:∀ j,(qS a' q c').ownBlock=some j->w.heap.size<=j:=fun j hj=>(O1.lt j hj).1
   have O4:OG 3 1 clI w4 w.heap.size v' (bkx P x (q+1)):=by
    unfold OG;rw [lH,HSU.o,xU,xX];exact hown
   have B4:=eH B1 hgr (fun e=>by have:=hrow _ e.symm;omega);have T4:=rC T1 hgr hrow;obtain ⟨a4,c4,rfl⟩:=aS O4;rw [lH] at O4;have HX:=zh (xA O4 (xA B4 T4));have HL:=zh (lH P x (q+1));clear O1 B1 T1 hrow O4 B4 T4 hown hgr HR HOW
   go_roundw
   .exact ⟨q+1,a4,c4,by omega,by go_num,by rw [HL.o],HX.o.1,by rw [<- HFE.o];exact HX.o.2.1,HX.o.2.2⟩
   .simp [intOf];omega
  .have hlt':¬ (q:Int)<(P.bl.length:Int):=by omega
   have e:q=P.bl.length:=by omega
   rw [e] at O B;have HX:=zh (xA O (xA B T));have HE:=zh e;clear O B T e;go_wp2;go_ret;exact ⟨a',c',by rw [<- HE.o];rfl,HX.o.1,HX.o.2.1,HX.o.2.2⟩
structure Tf (w:qw)(base g n:Nat)(f:Nat->TB):Prop where
 head:∃ cs,Blk w g cs 190/\cs.size=n/\∀ i,i<n->cs[i]?=some (svT (f i))
 rows:∀ i,i<n->OG 58 3 clG w base (svT (f i)) (f i).1
 apart:∀ i j,i<n->j<n->i≠j->∀ k,(svT (f i)).ownBlock=some k->(svT (f j)).ownBlock≠some k
theorem Tf.bw {w w':qw}(h:Tf w base g n f)(hb:qY w w'):Tf w' base g n f:=
 ⟨by obtain ⟨cs,h1,h2,h3⟩:=h.head;exact ⟨cs,h1.bw hb,h2,h3⟩,fun i hi=>(h.rows i hi).bw hb,h.apart⟩
theorem Tf.cell {w:qw}(h:Tf w base g n f)(i:Nat)(hi:i<n):w.cell? (qR g i)=some (svT (f i))/\w.frozen? (qR g i)=false:=by
 obtain ⟨cs,h1,h2,h3⟩:=h.head;exact ⟨(h1.cell i).trans (h3 i hi),h1.frozen i⟩
theorem Tf.lt {w:qw}(h:Tf w base g n f):g<w.heap.size/\∀ i,i<n->∀ k,(svT (f i)).ownBlock=some k->base<=k/\k<w.heap.size:=by
 obtain ⟨cs,h1,_⟩:=h.head;exact ⟨h1.lt,fun i hi=>(h.rows i hi).lt⟩
theorem Tf.update {W W':qw}{m:Nat}{x:TB}{g4 c4:Nat}(h:Tf W base g n f)(hm:m<n)(hg:W.grownBy W' (svT (f m)).ownBlock)(hx:OG 58 3 clG W' base (svT x) x.1)(hs:svT x=qS (qP g4) x.1.length c4)(hat:(svT (f m)).ownBlock=some g4\/g4=W.heap.size):Tf (W'.setCell (qR g m) (svT x)) base g n (fun i=>if i=m then x else f i):=by
 obtain ⟨cs,h1,h2,h3⟩:=h.head;have hk:∀ k,(svT (f m)).ownBlock=some k->k≠g:=fun k hk e=>by subst e;exact aM (h.rows m hm) hk h1 (by decide)
 have hb:Blk W' g cs 190:=eH h1 hg (fun e=>hk g e.symm rfl);have tx:=aC W' g m (svT x)
 have hng:∀ (u:Value) (ys:List Tg),OG 58 3 clG W' base u ys->∀ k,u.ownBlock=some k->¬ (fun j=>j=g) k:=fun u ys ho k hk' e=>by
  have e':k=g:=e;subst e';exact aM ho hk' hb (by decide)
 refine ⟨⟨cs.setIfInBounds m (svT x),hb.set m (svT x),by simp [h2],fun i hi=>?_⟩,fun i hi=>?_,fun i j hi hj hij k hk1=>?_⟩
 .by_cases e:i=m
  .subst e;simp [h2,hi]
  .simp only [e,if_false];rw [Array.getElem?_setIfInBounds_ne (fun e'=>e e'.symm)];exact h3 i hi
 .by_cases e:i=m
  .simp only [e,if_true];exact hx.kept tx (hng _ _ hx)
  .simp only [e,if_false];have o:=(h.rows i hi).kept' hg (fun k hk' e'=>h.apart i m hi hm e k hk' e');exact o.kept tx (hng _ _ o)
 .have hx4:(svT x).ownBlock=some g4:=by rw [hs];rfl
  by_cases e1:i=m
  .have e2:¬ j=m:=fun e=>hij (e1.trans e.symm);simp only [e1,e2,if_true,if_false] at hk1 ⊢;rw [hx4] at hk1;simp at hk1;subst hk1;rcases hat with h5|h5
   .exact fun e=>h.apart m j hm hj (fun e'=>e2 e'.symm) g4 h5 e
   .exact fun e=>by have:=(h.lt.2 j hj g4 e).2;omega
  .by_cases e2:j=m
   .simp only [e1,e2,if_true,if_false] at hk1 ⊢;rw [hx4];intro e;simp at e;subst e;rcases hat with h5|h5
    .exact h.apart i m hi hm e1 g4 hk1 h5
    .have:=(h.lt.2 i hi g4 hk1).2;omega
   .simp only [e1,e2,if_false] at hk1 ⊢;exact h.apart i j hi hj hij k hk1
theorem aHu {w:qw}(h:w.ownsRow base 190 1 (qS (qP g) n n) n (madeCells (Value.cells (qS none 0 0)) (n*1)).toList)(lo:Nat):Tf w lo g n (fun _=>([],none,0)):=by
 obtain ⟨hl,h|⟨g',cap,cur,hv,hb,hh,h1,h2,h3,h4⟩⟩:=h
 .simp at h
 .simp at hv;obtain ⟨rfl,rfl⟩:=hv
  have e:cur.toList=(madeCells (Value.cells (qS none 0 0)) (n*1)).toList:=by
   rw [<- h4,xG (by simp [h3])]
  have e2:cur=madeCells (Value.cells (qS none 0 0)) (n*1):=Array.toList_inj.1 e;refine ⟨⟨cur,hh,by simpa using h3,fun i hi=>?_⟩,fun i hi=>fI _ _ _ _ _,fun i j _ _ _ k hk=>by simp [svT,Value.ownBlock] at hk⟩;rw [e2];simp [madeCells,Value.cells,svT,hi,Nat.mod_one]
theorem Tf.otg {w:qw}{c:Nat}(h:Tf w base g n f)(hg:base<=g)(hn:n<=maxLen)(hc:c=n):OTg w base base (.slice (qP g) ((List.range n).map f).length c) ((List.range n).map f):=by
 subst hc;obtain ⟨cs,h1,h2,h3⟩:=h.head;refine ⟨⟨?_,.inr ⟨g,c,cs,by simp,hg,h1,by simp,hn,by simpa using h2,?_⟩⟩,fun x hx=>?_,?_⟩
 .rw [show ((List.range c).map f).flatMap aA8=(List.range c).map (fun i=>svT (f i)) by rw [List.flatMap_map];exact cY _ _];simp
 .apply List.ext_getElem?;intro i;rw [show ((List.range c).map f).flatMap aA8=(List.range c).map (fun i=>svT (f i)) by rw [List.flatMap_map];exact cY _ _];by_cases hi:i<c
  .rw [List.getElem?_take,if_pos (by simpa using hi),Array.getElem?_toList,h3 i hi];simp [hi]
  .rw [xO (by simp;omega),xO (by simp;omega)]
 .simp at hx;obtain ⟨i,hi,rfl⟩:=hx;exact h.rows i hi
 .rw [List.pairwise_iff_getElem];intro i j hi hj hij k hk;simp at hi hj hk ⊢;exact h.apart i j hi hj (by omega) k hk
theorem uO (a:qO)(n cap:Nat)(ms:List Md)(w:qw)(h:MSD w a n cap ms)(hv:fO (aE ms))(hn:n<=4):
 qC 186 #[.slice a n cap] w fun e w'=>qY w w'/\((¬ jQ (aE ms)/\∃ v,e=.returned (.tuple #[v,.bool false]))\/(jQ (aE ms)/\∃ f,e=.returned (.tuple #[.slice (some (qR w.heap.size 0)) n n,.bool true])/\Tf w' w.heap.size w.heap.size n f/\∀ i,i<n->(f i).1=tgs (aE ms) ((aE ms).getD i zP))):=by
 obtain ⟨iT,hiT,hzT0,hzT1,hzT2⟩:=info_parts aKf;obtain ⟨iG,hiG,hzG0,hzG1,hzG2⟩:=info_parts aNv;have hl:=h.s.1;have hpl:(aE ms).length=n:=by rw [bQ,hl]
 have HH:=zh h;have HVL:=zh hv;clear h hv;go_enter func186,ntmps186
 go_wp2_with (at_make;refine wpList_make_full _ rfl _ _ 69 rfl w.heap.size 190 iT (.slice none 0 0) 1 underlying69 hiT hzT0 hzT1 .i64 .i64 _ _ n rfl rfl rfl rfl (by rw [hzT2];omega) (by unfold maxLen;omega) aN ?_;intro w1 hown hgr)
 have T0:=aHu hown w.heap.size;have B0:=aV hgr;have HT0:=zh (xA T0 B0);clear hown hgr T0 B0;go_loopw [16] (fun i wr=>∃ (m:Nat) (f:Nat->TB),m<=n/\i=.int .i64 m/\Tf wr w.heap.size w.heap.size n f/\(∀ i,i<n->(f i).1=if i<m then tgs (aE ms) ((aE ms).getD i zP) else [])/\(∀ j,j<m->pJ (aE ms) ((aE ms).getD j zP))/\qY w wr) (qf n)
 .exact ⟨0,fun _=>([],none,0),xC _,rfl,HT0.o.1,fun i hi=>by simp,fun j hj=>absurd hj (by omega),HT0.o.2⟩
 .clear HT0;obtain ⟨m,f,hm,rfl,F,hf,hk,B⟩:=hrel;by_cases hlt:m<n
  .have hlt':(m:Int)<(n:Int):=by omega
   have H:=HH.o.bw B;obtain ⟨b,off,rfl,q0,q1,q2,q3,q4,q5,q6,q7⟩:=H.s.at m hlt;have hmd:=H.d m hlt;have hvm:=HVL.o m (by omega);obtain ⟨P,hP⟩:=eqx ((aE ms).getD m zP);have hPM:P=(ms.getD m aK).pm:=hP.trans (cG);rw [<- hP] at hvm;have vi:=(bZ hvm).2.1;have eI:(ms.getD m aK).im=P.ss.length:=by rw [hPM];exact hmd.i.1.symm
   have eS:(ms.getD m aK).ss=P.ss:=by rw [hPM];rfl
   have HMI:=zh (fun (W:qw) (hb:qY w W)=>(HH.o.d m hlt).i.bw hb);rw [eI] at q6;rw [eI,eS] at HMI;have HP:=zh hP;have HB:=zh (xA B (xA F (xA hf hk)));generalize ms.getD m aK=M at *;generalize M.ia=ia at *;have al:qY wr (wr.alloc (.cells (qM M.nm M.ta M.tn M.tc M.ba M.bn M.bc M.da M.dn M.dc M.bss M.ra M.rn M.rc ia P.ss.length M.ic M.ea M.en M.ec) 138)):=bal;obtain ⟨g0,g1,g2,g3,g4,g5,g6,g7⟩:=(Blk.new wr (qM M.nm M.ta M.tn M.tc M.ba M.bn M.bc M.da M.dn M.dc M.bss M.ra M.rn M.rc ia P.ss.length M.ic M.ea M.en M.ec) 138).eight;have HAL:=zh (xA al (F.bw al));clear B H hmd hP hPM eI eS al hvm F hf hk;generalize wr=wo at *;go_wp2_with fail
   go_loopw [24] (fun i wx=>∃ (q:Nat) (f:Nat->TB),q<=P.ss.length/\i=.int .i64 q/\Tf wx w.heap.size w.heap.size n f/\(∀ i,i<n->(f i).1=if i<m then tgs (aE ms) ((aE ms).getD i zP) else if i=m then tgN (aE ms) P q else [])/\(∀ j,j<q->(gZ (aE ms) (P.ss.getD j zS)).isSome=true)/\Turn (fun j=>w.heap.size<=j) wo wx) (qf P.ss.length)
   .exact ⟨0,f,xC _,rfl,HAL.o.2,fun i hi=>by
    rw [HB.o.2.2.1 i hi];by_cases e:i<m
    .simp [e]
    .by_cases e2:i=m
     .simp [e2,tgN]
     .simp [e,e2],fun j hj=>absurd hj (by omega),aJ HAL.o.1⟩
   .obtain ⟨q,f',hq,rfl,F,hf,hk,T⟩:=hrel;have B:=aG HB.o.1 T (fun j hj=>hj) HB.o.1.size;by_cases hlt2:q<P.ss.length
    .have hlt2':(q:Int)<(P.ss.length:Int):=by omega
     obtain ⟨hsl,_,hsz,hcs,_⟩:=HMI.o wr B;obtain ⟨b2,off2,rfl,hc⟩:=hcs (by omega);have c0:=hc q hlt2;have hss:(P.ss.getD q zS).size<=1048576:=hsz _ (by simp [xB,hlt2]);have HR:=zh ((HH.o.bw B).resI HVL.o hn (P.ss.getD q zS) hss);have HTS:=zh (fun t (h:gZ (aE ms) (P.ss.getD q zS)=some t)=>aBo (ps:=aE ms) (P:=P) q h);have HBAD:=zh (fun (h:gZ (aE ms) (P.ss.getD q zS)=none)=>(show ¬ jQ (aE ms) from fun hi=>by have:=hi m (by omega) q (by rw [<- HP.o];exact hlt2);rw [<- HP.o,h] at this;cases this))
     have HGO:=zh (fun t (h:gZ (aE ms) (P.ss.getD q zS)=some t)=>(show ∀ j,j<q+1->(gZ (aE ms) (P.ss.getD j zS)).isSome=true from fun j hj=>by
      by_cases e:j=q
      .subst e;rw [h];rfl
      .exact hk j (by omega)))
     have hX:(f' m).1=tgN (aE ms) P q:=by rw [hf m hlt,if_neg (by omega),if_pos rfl]
     have hsv:svT (f' m)=.slice (f' m).2.1 q (f' m).2.2:=by unfold svT;rw [hX,gN]
     have HQ:=zh (xA F (xA hf (xA T B)));have hgw:=HB.o.1.size;have hTs:=T.size;generalize P.ss.getD q zS=str at *;clear F hk T B hc hsz hcs;go_wp2_with fail
     refine HR.o.mono ?_;rintro e w1 ⟨rfl,hb1⟩;obtain ⟨F,hf,T,B⟩:=HQ.o;have B1:=B.trans (hb1.mono B.size);cases ho:gZ (aE ms) str with
     | none=>
       have HF:=zh (xA (B1.trans (((Below.refl _ w1).alloc aN (.cells (qT 0 0 0) 58)).mono B1.size)) (HBAD.o ho));clear F hf T B hb1 B1 HQ HR HTS HBAD HGO c0 hX hsv;unfold tgV;go_wp2
       go_ret2
       exact ⟨HF.o.1,.inl ⟨HF.o.2,_,rfl⟩⟩
     | some t=>
       obtain ⟨t1,t2,t3⟩:=t;have al1:qY w1 (w1.alloc (.cells (qT t1 t2 t3) 58)):=bal;have hs1:(w1.alloc (.cells (qT t1 t2 t3) 58)).heap.size=w1.heap.size+1:=by simp
       have k1:=Blk.new w1 (qT t1 t2 t3) 58;have F1:=(F.bw hb1).bw al1;have T1:=(T.trans (aJ hb1)).trans (aJ al1);have HT2:=zh (HTS.o _ ho);have HG2:=zh (HGO.o _ ho);obtain ⟨x0,x1,x2,_⟩:=k1.three;generalize hW1:w1.alloc (.cells (qT t1 t2 t3) 58)=W1 at *;have al2:qY W1 (W1.alloc (.cells (qT t1 t2 t3) 58)):=bal;have F2a:=F1.bw al2;have F2:Tf (W1.alloc (.cells (qT t1 t2 t3) 58)).drew w.heap.size w.heap.size n f':=⟨F2a.head,F2a.rows,F2a.apart⟩;have HCN:=zh (show ∀ j u,(clG (t1,t2,t3))[j]?=some u->(W1.alloc (.cells (qT t1 t2 t3) 58)).drew.cell? (((qR (w1.heap.size+1) 0):Addr).add j)=some u by have:=bS W1 _ 58 (clG (t1,t2,t3)) rfl;rw [hs1] at this;exact this);obtain ⟨p3,f3⟩:=F2a.cell m hlt;rw [hsv] at p3;obtain ⟨p1,f1⟩:=F1.cell m hlt;obtain ⟨p2,f2⟩:=F2.cell m hlt;have hsz1:=hb1.size;rw [hsv] at p1 p2;obtain ⟨A,hA⟩:=eqx ((f' m).2.1);obtain ⟨C,hC⟩:=eqx ((f' m).2.2);rw [<- hA,<- hC] at p1 p2 p3 hsv;have HOW:=zh (show (W1.alloc (.cells (qT t1 t2 t3) 58)).drew.ownsRow w.heap.size 58 3 (.slice A q C) q ((tgN (aE ms) P q).flatMap clG) by have:=F2.rows m hlt;unfold OG at this;rw [hsv,hX,gN] at this;exact this)
       have HHD:=zh (fun (w4:qw) (hgr:(W1.alloc (.cells (qT t1 t2 t3) 58)).drew.grownBy w4 (Value.slice A q C).ownBlock)=>(show w4.cell? (qR w.heap.size m)=some (.slice A q C)/\w4.frozen? (qR w.heap.size m)=false from by
        obtain ⟨cs,hc1,hc2,hc3⟩:=F2.head;have hb4:=eH hc1 hgr (fun e=>by have:=F2.rows m hlt;rw [hsv] at this;exact aM this e.symm hc1 (by decide))
        exact ⟨(hb4.cell m).trans ((hc3 m hlt).trans (by rw [hsv])),hb4.frozen m⟩))
       have HX:=zh (xA F2 (xA hf (xA (mL (T1.trans (aJ al2))) (xA hsv hX))));have HW1:=zh hW1;have hgl:=F1.lt.1;clear F hf T B hb1 B1 HQ HR HTS HBAD HGO c0 al1 k1 F1 T1 al2 F2 F2a hX hsv hA hC hW1;unfold tgV;go_wp2_with fail
       rw [HW1.o]
       go_region_law (first
        | (refine step_append_lies _ rfl _ _ 190 rfl w.heap.size 58 iG (.agg (qT 0 0 0)) 3 24 underlying190 hiG hzG0 hzG1 hzG2 rfl (by decide) (.slice A q C) q ((tgN (aE ms) P q).flatMap clG) rfl HOW.o (qR (w1.heap.size+1) 0) 1 1 (clG (t1,t2,t3)) rfl rfl HCN.o (by intro u hu;simp [clG] at hu;rcases hu with rfl|rfl|rfl<;>rfl) (by decide) (by unfold maxLen;omega) (by omega) (by simp;omega) _ rfl ?_;intro g4 c4 w4 hown hgr hat hlt4;obtain ⟨p4,f4⟩:=HHD.o w4 hgr))
       all_goals
        obtain ⟨F2,hf,T2,hsv,hX⟩:=HX.o;have hgr':=hgr;rw [<- hsv] at hgr' hat
        have O4:OG 58 3 clG w4 w.heap.size (svT ((tgN (aE ms) P (q+1),some (qR g4 0),c4):TB)) (tgN (aE ms) P (q+1)):=by
         unfold OG svT;rw [gN,HT2.o,xU,xX];exact hown
        have U:=F2.update (x:=(tgN (aE ms) P (q+1),some (qR g4 0),c4)) (g4:=g4) (c4:=c4) hlt hgr' O4 rfl (by simpa using hat)
        have T5:Turn (fun j=>w.heap.size<=j) wo (w4.setCell (qR w.heap.size m) (svT ((tgN (aE ms) P (q+1),some (qR g4 0),c4):TB))):=by
         have t4:Turn (fun j=>w.heap.size<=j) _ w4:=⟨hgr.os,hgr.tape,hgr.output,hgr.size,fun j hj hs=>hgr.block j hj (fun e=>hs (by have:=(F2.lt.2 m hlt j (by rw [hsv];exact e.symm)).1;exact this))⟩;exact (T2.trans t4).trans ((aC w4 w.heap.size m _).mono (fun j hj=>by have e:j=w.heap.size:=hj;omega))
        have hsx:svT ((tgN (aE ms) P (q+1),some (qR g4 0),c4):TB)=.slice (some (qR g4 0)) (q+1) c4:=by unfold svT;rw [gN]
        rw [hsx] at U T5
        have HF:=zh (xA U (xA (show ∀ i,i<n->((fun i=>if i=m then ((tgN (aE ms) P (q+1),some (qR g4 0),c4):TB) else f' i) i).1=if i<m then tgs (aE ms) ((aE ms).getD i zP) else if i=m then tgN (aE ms) P (q+1) else [] from fun i hi=>by
         by_cases e:i=m
         .simp [e]
         .simp only [e,if_false];rw [hf i hi];simp [e]) (xA HG2.o T5)))
        clear F2 hf T2 hsv hX hgr' hgr hown hat O4 U T5 hsx HX HOW HHD p4 f4 p1 p2 p3 f1 f2 f3 HCN x0 x1 x2;go_wp2
        go_roundw
        .exact ⟨q+1,_,by omega,by go_num,HF.o.1,HF.o.2.1,HF.o.2.2.1,HF.o.2.2.2⟩
        .simp [qf,intOf];omega
    .have hlt2':¬ (q:Int)<(P.ss.length:Int):=by omega
     have hqe:q=P.ss.length:=by omega
     have HF:=zh (xA B (xA F (xA (show ∀ i,i<n->(f' i).1=if i<m+1 then tgs (aE ms) ((aE ms).getD i zP) else [] from fun i hi=>by
      rw [hf i hi];by_cases e:i<m
      .rw [if_pos e,if_pos (by omega)]
      .by_cases e2:i=m
       .rw [if_neg e,if_pos e2,if_pos (by omega),e2,<- HP.o,hqe];rfl
       .rw [if_neg e,if_neg e2,if_neg (by omega)]) (show ∀ j,j<m+1->pJ (aE ms) ((aE ms).getD j zP) from fun j hj=>by
      by_cases e:j=m
      .subst e;rw [<- HP.o];intro i hi;exact hk i (by omega)
      .exact HB.o.2.2.2 j (by omega)))))
     clear F hf hk T B hqe;go_wp2
     go_roundw
     .exact ⟨m+1,f',by omega,by go_num,HF.o.2.1,HF.o.2.2.1,HF.o.2.2.2,HF.o.1⟩
     .simp [qf,intOf];omega
  .have hlt':¬ (m:Int)<(n:Int):=by omega
   have HI:Zh (jQ (aE ms)):=fun i hi=>hk i (by omega);have HF:=zh (xA B (xA F (show ∀ i,i<n->(f i).1=tgs (aE ms) ((aE ms).getD i zP) from fun i hi=>by rw [hf i hi,if_pos (by omega)])));clear B F hf hk;go_wp2
   go_ret2
   exact ⟨HF.o.1,.inr (by first|exact ⟨HI.o,f,rfl,HF.o.2.1,HF.o.2.2⟩|exact ⟨HI.o,rfl,f,HF.o.2.1,HF.o.2.2⟩)⟩
theorem aLt (x:Int):rnd (rnd x)=rnd x:=by unfold rnd;omega
theorem aG9 {x:Int}(h:x%32=0):rnd x=x:=by unfold rnd;omega
def alF (x:Int):Array Value:=#[qI x,.func (.func 199) #[] #[]]
def alR (x:Int):Array Value:=#[qI x,.func (.func 212) #[] #[]]
structure Lo (w W:qw)(s c k d fx rx:Int)(cs:Array Value):Prop where
 be:qY w W
 k0:Blk W w.heap.size (qW s c k d) 37
 k1:Blk W (w.heap.size+1) zL 71
 k2:Blk W (w.heap.size+2) (alF fx) 242
 k3:Blk W (w.heap.size+3) (alR rx) 244
 k4:Blk W (w.heap.size+4) cs 71
theorem Lo.sz {w W:qw}(h:Lo w W s c k d fx rx cs):w.heap.size+5<=W.heap.size:=h.k4.lt
theorem Lo.bw {w W W':qw}(h:Lo w W s c k d fx rx cs)(hb:qY W W'):Lo w W' s c k d fx rx cs:=⟨h.be.trans (hb.mono h.be.size),h.k0.bw hb,h.k1.bw hb,h.k2.bw hb,h.k3.bw hb,h.k4.bw hb⟩
theorem Lo.set {w W:qw}(h:Lo w W s c k d fx rx cs)(i:Nat)(v:Value):Lo w (W.setCell (qR (w.heap.size+4) i) v) s c k d fx rx (cs.setIfInBounds i v):=by
 have t:=aC W (w.heap.size+4) i v;exact ⟨aG h.be t (fun k hk=>by omega) h.be.size,aF t h.k0 (by omega),aF t h.k1 (by omega),aF t h.k2 (by omega),aF t h.k3 (by omega),h.k4.set i v⟩
theorem Lo.other {w W:qw}(h:Lo w W s c k d fx rx cs)(hg:w.heap.size+5<=g)(i:Nat)(v:Value):Lo w (W.setCell (qR g i) v) s c k d fx rx cs:=by
 have t:=aC W g i v;exact ⟨aG h.be t (fun k hk=>by omega) h.be.size,aF t h.k0 (by omega),aF t h.k1 (by omega),aF t h.k2 (by omega),aF t h.k3 (by omega),aF t h.k4 (by omega)⟩
theorem Lo.callF {w W W':qw}{fx':Int}(h:Lo w W s c k d fx rx cs)(t:Turn (fun j=>j=w.heap.size+2) W W')(k2:Blk W' (w.heap.size+2) (alF fx') 242):Lo w W' s c k d fx' rx cs:=
 ⟨aG h.be t (fun k hk=>by omega) h.be.size,aF t h.k0 (by omega),aF t h.k1 (by omega),k2,aF t h.k3 (by omega),aF t h.k4 (by omega)⟩
theorem Lo.callR {w W W':qw}{rx':Int}(h:Lo w W s c k d fx rx cs)(t:Turn (fun j=>j=w.heap.size+3) W W')(k3:Blk W' (w.heap.size+3) (alR rx') 244):Lo w W' s c k d fx rx' cs:=
 ⟨aG h.be t (fun k hk=>by omega) h.be.size,aF t h.k0 (by omega),aF t h.k1 (by omega),aF t h.k2 (by omega),k3,aF t h.k4 (by omega)⟩
theorem Lo.grown {w W W':qw}{row:Option Nat}(h:Lo w W s c k d fx rx cs)(hg:W.grownBy W' row)(hr:∀ j,row=some j->w.heap.size+5<=j):Lo w W' s c k d fx rx cs:=by
 have t:Turn (fun j=>row=some j) W W':=⟨hg.os,hg.tape,hg.output,hg.size,fun j hj hs=>hg.block j hj (fun e=>hs e.symm)⟩;exact ⟨aG h.be t (fun j hj=>by have:=hr j hj;omega) h.be.size,aF t h.k0 (fun e=>by have:=hr _ e;omega),aF t h.k1 (fun e=>by have:=hr _ e;omega),aF t h.k2 (fun e=>by have:=hr _ e;omega),aF t h.k3 (fun e=>by have:=hr _ e;omega),aF t h.k4 (fun e=>by have:=hr _ e;omega)⟩
theorem aOx (w:qw)(s c k d:Int):Lo w (((((w.alloc (.cells (qW s c k d) 37)).alloc (.cells qz 71)).alloc (.cells #[qI 0,.func (.func 199) #[] #[]] 242)).alloc (.cells #[qI 65536,.func (.func 212) #[] #[]] 244)).alloc (.cells qz 71)) s c k d 0 65536 zL:=by
 have k0:=Blk.new w (qW s c k d) 37;have b0:qY w (w.alloc (.cells (qW s c k d) 37)):=bal;have s0:(w.alloc (.cells (qW s c k d) 37)).heap.size=w.heap.size+1:=by simp
 generalize w.alloc (.cells (qW s c k d) 37)=W0 at *;have k1:=Blk.new W0 qz 71;have b1:qY W0 (W0.alloc (.cells qz 71)):=bal;have s1:(W0.alloc (.cells qz 71)).heap.size=w.heap.size+2:=by simp [s0]
 rw [s0] at k1;generalize W0.alloc (.cells qz 71)=W1 at *;have k2:=Blk.new W1 #[qI 0,.func (.func 199) #[] #[]] 242;have b2:qY W1 (W1.alloc (.cells #[qI 0,.func (.func 199) #[] #[]] 242)):=bal;have s2:(W1.alloc (.cells #[qI 0,.func (.func 199) #[] #[]] 242)).heap.size=w.heap.size+3:=by simp [s1]
 rw [s1] at k2;generalize W1.alloc (.cells #[qI 0,.func (.func 199) #[] #[]] 242)=W2 at *;have k3:=Blk.new W2 #[qI 65536,.func (.func 212) #[] #[]] 244;have b3:qY W2 (W2.alloc (.cells #[qI 65536,.func (.func 212) #[] #[]] 244)):=bal;have s3:(W2.alloc (.cells #[qI 65536,.func (.func 212) #[] #[]] 244)).heap.size=w.heap.size+4:=by simp [s2]
 rw [s2] at k3;generalize W2.alloc (.cells #[qI 65536,.func (.func 212) #[] #[]] 244)=W3 at *;have k4:=Blk.new W3 qz 71;have b4:qY W3 (W3.alloc (.cells qz 71)):=bal;rw [s3] at k4;have c34:=b4;have c24:=b3.trans (c34.mono (by omega));have c14:=b2.trans (c24.mono (by omega));have c04:=b1.trans (c14.mono (by omega));exact ⟨b0.trans (c04.mono (by omega)),k0.bw c04,k1.bw c14,k2.bw c24,k3.bw c34,k4⟩
def Lq (w:qw)(j:Nat):Prop:=w.heap.size<=j/\j<w.heap.size+5
theorem aKa {w W:qw}(k1:Blk W (w.heap.size+1) zL 71)(v0 v1 v2 v3 v4 v5:Value)(Q:Ending->World->Prop)(tmps:Array Value)(h4:tmps[4]?=some (.pointer (some (qR (w.heap.size+1) 0))))(hQ:Q (.returned (.agg #[v0,v1,v2,v3,v4,v5])) (st6 W (w.heap.size+1) v0 v1 v2 v3 v4 v5)):
 bodyPost prog f188 Q Exit.ret ⟨tmps,[]⟩ (st6 W (w.heap.size+1) v0 v1 v2 v3 v4 v5):=by
 have k:=jI k1 v0 v1 v2 v3 v4 v5;obtain ⟨t0,t1,t2,t3,t4,t5⟩:=k.z6;refine bodyPost_ret_by (v:=.agg #[v0,v1,v2,v3,v4,v5]) ?_ rfl hQ;simp [results,results188,go_sem,h4,t0,t1,t2,t3,t4,t5]
theorem tA (a:qO)(n cap:Nat)(ms:List Md)(s c k d:Int)(w:qw)(h:MSD w a n cap ms)(hn:n<=4)(hcf:cfo s c k d=true)(hv:fO (aE ms)):
 qC 188 #[qS a n cap,.agg (qW s c k d)] w fun e w'=>qY w w'/\∃ a0 c0 xs a2 c2,e=.returned (.agg (mF ⟨(lay (aE ms) s c k).places,(lay (aE ms) s c k).stack,(lay (aE ms) s c k).slots,(lay (aE ms) s c k).flash,(lay (aE ms) s c k).ram,[]⟩ a0 c0 xs a2 c2 none 0 []))/\LayO w' w.heap.size ⟨(lay (aE ms) s c k).places,(lay (aE ms) s c k).stack,(lay (aE ms) s c k).slots,(lay (aE ms) s c k).flash,(lay (aE ms) s c k).ram,[]⟩ a0 c0 xs a2 c2 none 0 []:=by
 have N0:=aOx w s c k d;have hl:=h.s.1;have hpl:(aE ms).length=n:=by rw [bQ,hl]
 have HH:=zh h;have HVD:=zh hv;obtain ⟨hs0,hs1,hc0,hc1,hk0,hk1,hk2,_⟩:=of_decide_eq_true hcf;have HN:=zh N0;clear h N0 hcf hv;go_enter func188,ntmps188
 go_wp2_with fail
 go_loopw [15] (fun i wr=>∃ (m:Nat) (a0:qO) (c0:Nat) (xs:List PB),m<=n/\i=qI m/\Lo w wr s c k d (Fl (aE ms) m) (65536+Ra (aE ms) m) #[qS a0 m c0,qI 0,qS none 0 0,qI 0,qI 0,qS none 0 0]/\OPl wr (w.heap.size+5) (w.heap.size+5) (qS a0 m c0) xs/\xs.length=m/\xs.map (fun x=>x.1)=(List.range m).map (plc (aE ms))) (qf n)
 .exact ⟨0,none,0,[],xC _,rfl,HN.o,aAa,rfl,rfl⟩
 .clear HN;obtain ⟨m,a0,c0,xs,hm,rfl,S,PX,xl,xp⟩:=hrel;generalize wr=wo at *;by_cases hlt:m<n
  .have hlt':(m:Int)<(n:Int):=by omega
   have H:=HH.o.bw S.be;obtain ⟨b,off,rfl,q0,q1,q2,q3,q4,q5,q6,q7⟩:=H.s.at m hlt;have hmd:=HH.o.d m hlt;have hvm:=HVD.o m (by omega);obtain ⟨P,hP⟩:=eqx ((aE ms).getD m zP);have hPM:P=(ms.getD m aK).pm:=hP.trans (cG (by omega));rw [<- hP] at hvm;have rT:0<=rnd (4*(P.tz.length:Int))/\rnd (4*(P.tz.length:Int))<=831:=dW hvm;have rD:0<=(rnd ((P.dz.length:Int)+P.bss))/\(rnd ((P.dz.length:Int)+P.bss))<=1055:=iH hvm;have rF:=cL HVD.o m (by omega);have rR:=bO HVD.o m (by omega);obtain ⟨_,_,vt,vb,vd,vs0,vs1,vbk⟩:=bZ hvm;have eT:(ms.getD m aK).tn=P.tz.length:=by rw [hPM];exact hmd.t.1.symm
   have eD:(ms.getD m aK).dn=P.dz.length:=by rw [hPM];exact hmd.d.1.symm
   have eS:(ms.getD m aK).bss=P.bss:=by rw [hPM];rfl
   have eB:(ms.getD m aK).bn=P.bl.length:=by rw [hPM];show _=(List.map _ _).length;rw [xH];exact hmd.b.1.symm
   have HBK:Zh (∀ j,j<P.bl.length->((ms.getD m aK).bl.getD j zB).2.1=(P.bl.getD j []).length):=fun j hj=>by rw [hPM];exact (qD hmd j (by omega)).1
   have HBS:=zh hmd.b;rw [eB] at HBS;have HVM:=zh hvm;have HPP:=zh hP;generalize ms.getD m aK=M at *;rw [eT] at q1;rw [eB] at q2;rw [eD] at q3;rw [eS] at q4;have al:qY wo ((wo.alloc (.cells (qM M.nm M.ta P.tz.length M.tc M.ba P.bl.length M.bc M.da P.dz.length M.dc P.bss M.ra M.rn M.rc M.ia M.im M.ic M.ea M.en M.ec) 138)).alloc (.cells #[qI 0,qS none 0 0,qI 0,qI 0] 171)):=(brf.alloc aN _).alloc (by simp) _;have kM:=(Blk.new wo (qM M.nm M.ta P.tz.length M.tc M.ba P.bl.length M.bc M.da P.dz.length M.dc P.bss M.ra M.rn M.rc M.ia M.im M.ic M.ea M.en M.ec) 138).alloc (.cells #[qI 0,qS none 0 0,qI 0,qI 0] 171);have kp:=Blk.new (wo.alloc (.cells (qM M.nm M.ta P.tz.length M.tc M.ba P.bl.length M.bc M.da P.dz.length M.dc P.bss M.ra M.rn M.rc M.ia M.im M.ic M.ea M.en M.ec) 138)) #[qI 0,qS none 0 0,qI 0,qI 0] 171;try unfold qY at *
   simp only [xF] at kp;have S1:=S.bw al;have hgw:=S.sz;have g1:=kM.e1;have HPL:=zh (rV (w.heap.size+2) (Fl (aE ms) m) M.ta P.tz.length M.tc ((wo.alloc (.cells (qM M.nm M.ta P.tz.length M.tc M.ba P.bl.length M.bc M.da P.dz.length M.dc P.bss M.ra M.rn M.rc M.ia M.im M.ic M.ea M.en M.ec) 138)).alloc (.cells #[qI 0,qS none 0 0,qI 0,qI 0] 171)) S1.k2 (by omega) (by omega) (by omega));have HQ:=zh (xA S1 (xA kM (xA kp (aJ (S:=Lq w) al))));have HPX:=zh (xA PX (xA xl xp));clear H hmd hP hPM eT eD eS eB al S hvm kM kp S1 PX xl xp;go_wp2_with fail
   refine HPL.o.mono ?_;rintro e w1 ⟨rfl,B1,U1⟩;obtain ⟨S1,kM,kp,TT⟩:=HQ.o;have S2:=S1.callF (fx':=(Fl (aE ms) m+rnd (4*(P.tz.length:Int)))) U1 B1;have kM2:=aF U1 kM (by omega);have kp2:=aF U1 kp (by omega);have TT2:=TT.trans (U1.mono (S':=Lq w) (fun j hj=>by have e:j=w.heap.size+2:=hj;unfold Lq;omega));have y0:=kp2.e0;have f0:=kp2.frozen 0;have S3:=S2.other (g:=wo.heap.size+1) (by omega) 0 (qI (Fl (aE ms) m));have tp:=aC w1 (wo.heap.size+1) 0 (qI (Fl (aE ms) m));have kM3:=aF tp kM2 (by omega);have kp3:=kp2.s0 (qI (Fl (aE ms) m));have TT3:=gY TT2 (show wo.heap.size<=wo.heap.size+1 by omega) 0 (qI (Fl (aE ms) m));have g2:=kM3.e2;have g2':=kM2.e2;have HPA:=zh (zX (w.heap.size+2) (Fl (aE ms) m+rnd (4*(P.tz.length:Int))) P M.ba M.bc M.bl w (w1.setCell (qR (wo.heap.size+1) 0) (qI (Fl (aE ms) m))) S3.k2 HVM.o (by omega) (by omega) S3.be (by omega) HBS.o HBK.o);have HQ3:=zh (xA S3 (xA kM3 (xA kp3 TT3)));clear S1 kM kp TT S2 kM2 kp2 TT2 S3 tp kM3 kp3 TT3 HQ HPL B1 U1 g1;go_wp2_with fail
   refine HPA.o.mono ?_;rintro e w2 ⟨ar,cr,rfl,O,B2,U2⟩;obtain ⟨S3,kM3,kp3,TT3⟩:=HQ3.o;have hbs:wo.heap.size+2<=(w1.setCell (qR (wo.heap.size+1) 0) (qI (Fl (aE ms) m))).heap.size:=kp3.lt;have O:=O.mono hbs;have S4:=S3.callF (fx':=(Fl (aE ms) m+rnd (4*(P.tz.length:Int)))+cA P P.bl.length) U2 B2;have kM4:=aF U2 kM3 (by omega);have kp4:=aF U2 kp3 (by omega);have TT4:=TT3.trans (U2.mono (S':=Lq w) (fun j hj=>by have e:j=w.heap.size+2:=hj;unfold Lq;omega));have y1:=kp4.e1;have f1:=kp4.frozen 1;have tp:=aC w2 (wo.heap.size+1) 1 (qS ar P.bl.length cr);have S5:=S4.other (g:=wo.heap.size+1) (by omega) 1 (qS ar P.bl.length cr);have kM5:=aF tp kM4 (by omega);have kp5:=kp4.s1 (qS ar P.bl.length cr);have TT5:=gY TT4 (show wo.heap.size<=wo.heap.size+1 by omega) 1 (qS ar P.bl.length cr);have O5:=O.kept tp (fun k hk e=>by have:=(O.lt k hk).1;have e':k=wo.heap.size+1:=e;omega);have g3:=kM5.e3;have g4:=kM5.e4;have g3':=kM4.e3;have g4':=kM4.e4;have y3:=kp5.e3;have y3':=kp4.e3;have f3:=kp5.frozen 3;have f3':=kp4.frozen 3;have hwd:IntKind.i64.wrap ((P.dz.length:Int)+P.bss)=(P.dz.length:Int)+P.bss:=bY _ (by omega) (by omega);have tq:=aC (w2.setCell (qR (wo.heap.size+1) 1) (qS ar P.bl.length cr)) (wo.heap.size+1) 3 (qI (rnd ((P.dz.length:Int)+P.bss)));have S6:=S5.other (g:=wo.heap.size+1) (by omega) 3 (qI (rnd ((P.dz.length:Int)+P.bss)));have kp6:=kp5.s3 (qI (rnd ((P.dz.length:Int)+P.bss)));have TT6:=gY TT5 (show wo.heap.size<=wo.heap.size+1 by omega) 3 (qI (rnd ((P.dz.length:Int)+P.bss)));have O6:=O5.kept tq (fun k hk e=>by have:=(O5.lt k hk).1;have e':k=wo.heap.size+1:=e;omega);have z3:=kp6.e3;have HPI:=zh (mA (w.heap.size+3) (65536+Ra (aE ms) m) (rnd ((P.dz.length:Int)+P.bss)) ((w2.setCell (qR (wo.heap.size+1) 1) (qS ar P.bl.length cr)).setCell (qR (wo.heap.size+1) 3) (qI (rnd ((P.dz.length:Int)+P.bss)))) S6.k3 (by omega) (by omega) (by omega) (by omega));have HQ6:=zh (xA S6 (xA kp6 (xA TT6 O6)));clear S3 kM3 kp3 TT3 S4 kM4 kp4 TT4 tp S5 kM5 kp5 TT5 O O5 tq S6 kp6 TT6 O6 HQ3 HPA B2 U2 g2 g2' y0 f0 hbs;go_wp2_with fail
   refine (gP ((P.dz.length:Int)+P.bss) _ (by omega) (by omega)).mono ?_;rintro e wz ⟨rfl,rfl⟩;go_wp2_with fail
   refine HPI.o.mono ?_;rintro e w3 ⟨rfl,B3,U3⟩;obtain ⟨S6,kp6,TT6,O6⟩:=HQ6.o;have rR1:=bO HVD.o (m+1) (by omega);have rF1:=cL HVD.o (m+1) (by omega)
   have eR:(65536+Ra (aE ms) m)+rnd (rnd ((P.dz.length:Int)+P.bss))=65536+Ra (aE ms) (m+1):=by
    rw [aLt];show _=65536+(Ra (aE ms) m+dsz ((aE ms).getD m zP));rw [<- HPP.o];show _=65536+(Ra (aE ms) m+(rnd ((P.dz.length:Int)+P.bss)));omega
   have eF:(Fl (aE ms) m+rnd (4*(P.tz.length:Int)))+cA P P.bl.length=Fl (aE ms) (m+1):=by
    show _=Fl (aE ms) m+msz ((aE ms).getD m zP);rw [<- HPP.o];show _=Fl (aE ms) m+(rnd (4*(P.tz.length:Int))+cA P P.bl.length);omega
   have S7:=S6.callR (rx':=(65536+Ra (aE ms) m)+rnd (rnd ((P.dz.length:Int)+P.bss))) U3 B3;rw [eR,eF] at S7;have kp7:=aF U3 kp6 (by omega);have TT7:=TT6.trans (U3.mono (S':=Lq w) (fun j hj=>by have e:j=w.heap.size+3:=hj;unfold Lq;omega));have O7:=O6.kept U3 (fun k hk e=>by have:=(O6.lt k hk).1;have e':k=w.heap.size+3:=e;omega);have y2:=kp7.e2;have f2:=kp7.frozen 2;have tp:=aC w3 (wo.heap.size+1) 2 (qI (65536+Ra (aE ms) m));have S8:=S7.other (g:=wo.heap.size+1) (by omega) 2 (qI (65536+Ra (aE ms) m));have kp8:=kp7.s2 (qI (65536+Ra (aE ms) m));have TT8:=gY TT7 (show wo.heap.size<=wo.heap.size+1 by omega) 2 (qI (65536+Ra (aE ms) m));have O8:=O7.kept tp (fun k hk e=>by have:=(O7.lt k hk).1;have e':k=wo.heap.size+1:=e;omega);have PX8:=HPX.o.1.kept TT8 (fun k hk e=>by have:=(HPX.o.1.lt.1 k hk).1;unfold Lq at e;omega) (fun x hx k hk e=>by have:=(HPX.o.1.lt.2 x hx k hk).1;unfold Lq at e;omega);have p0:=S8.k4.e0;have p0':=S7.k4.e0;obtain ⟨r0,r1,r2,r3⟩:=kp8.z4;have r0':=kp7.e0;have r1':=kp7.e1;have r3':=kp7.e3;have hTs:=TT8.size;have hsC:(w3.setCell (qR (wo.heap.size+1) 2) (qI (65536+Ra (aE ms) m))).heap.size=w3.heap.size:=aL _ _ _;obtain ⟨iP,hiP,hzP0,hzP1,hzP2⟩:=info_parts aNu;have al2:Below (w3.setCell (qR (wo.heap.size+1) 2) (qI (65536+Ra (aE ms) m))).heap.size (w3.setCell (qR (wo.heap.size+1) 2) (qI (65536+Ra (aE ms) m))) ((w3.setCell (qR (wo.heap.size+1) 2) (qI (65536+Ra (aE ms) m))).alloc (.cells #[qI (Fl (aE ms) m),qS ar P.bl.length cr,qI (65536+Ra (aE ms) m),qI (rnd ((P.dz.length:Int)+P.bss))] 171)):=brf.alloc aN _;have HOW:=zh (show ((w3.setCell (qR (wo.heap.size+1) 2) (qI (65536+Ra (aE ms) m))).alloc (.cells #[qI (Fl (aE ms) m),qS ar P.bl.length cr,qI (65536+Ra (aE ms) m),qI (rnd ((P.dz.length:Int)+P.bss))] 171)).ownsRow (w.heap.size+5) 171 4 (qS a0 m c0) m (xs.flatMap clP) by have:=PX8.head.bw al2;unfold OG at this;rw [HPX.o.2.1] at this;exact this);have HCL:=zh (show clP ((⟨(Fl (aE ms) m),bkx P (Fl (aE ms) m+rnd (4*(P.tz.length:Int))) P.bl.length,(65536+Ra (aE ms) m),(rnd ((P.dz.length:Int)+P.bss))⟩,ar,cr):PB)=[qI (Fl (aE ms) m),qS ar P.bl.length cr,qI (65536+Ra (aE ms) m),qI (rnd ((P.dz.length:Int)+P.bss))] by simp [clP,svP,lH]);have HCN:=zh (show ∀ j u,([qI (Fl (aE ms) m),qS ar P.bl.length cr,qI (65536+Ra (aE ms) m),qI (rnd ((P.dz.length:Int)+P.bss))]:List Value)[j]?=some u->((w3.setCell (qR (wo.heap.size+1) 2) (qI (65536+Ra (aE ms) m))).alloc (.cells #[qI (Fl (aE ms) m),qS ar P.bl.length cr,qI (65536+Ra (aE ms) m),qI (rnd ((P.dz.length:Int)+P.bss))] 171)).cell? (((qR w3.heap.size 0):Addr).add j)=some u by rw [<- hsC];exact bS (w3.setCell (qR (wo.heap.size+1) 2) (qI (65536+Ra (aE ms) m))) _ _ [qI (Fl (aE ms) m),qS ar P.bl.length cr,qI (65536+Ra (aE ms) m),qI (rnd ((P.dz.length:Int)+P.bss))] rfl);have HLO:Zh (∀ A∈xs,∀ j,(svP A).ownBlock=some j->j<wo.heap.size+2):=fun A hA j hj=>by have:=(HPX.o.1.lt.2 A hA j hj).2;omega
   have HPLC:=zh (show plc (aE ms) m=⟨(Fl (aE ms) m),bkx P (Fl (aE ms) m+rnd (4*(P.tz.length:Int))) P.bl.length,(65536+Ra (aE ms) m),(rnd ((P.dz.length:Int)+P.bss))⟩ by unfold plc bkx;rw [<- HPP.o];rfl);have HQ8:=zh (xA (S8.bw al2) (xA (PX8.bw al2) (O8.bw al2)));have HPL2:=zh HPX.o.2;have hlw:(w3.setCell (qR (wo.heap.size+1) 2) (qI (65536+Ra (aE ms) m))).heap.size+1=((w3.setCell (qR (wo.heap.size+1) 2) (qI (65536+Ra (aE ms) m))).alloc (.cells #[qI (Fl (aE ms) m),qS ar P.bl.length cr,qI (65536+Ra (aE ms) m),qI (rnd ((P.dz.length:Int)+P.bss))] 171)).heap.size:=by simp
   have hwl:w.heap.size+5<=w3.heap.size:=by have:=S7.sz;omega
   clear S6 kp6 TT6 O6 S7 kp7 TT7 O7 tp S8 kp8 TT8 O8 PX8 al2 HQ6 HPI B3 U3 eR eF y1 f1 g3 g4 g3' g4' y3 y3' f3 f3' z3;go_wp2_with (at_builtin;refine wpList_append_own _ rfl _ _ 68 rfl (w.heap.size+5) 171 iP (.agg #[qI 0,qS none 0 0,qI 0,qI 0]) 4 48 underlying68 hiP hzP0 hzP1 hzP2 rfl (by decide) (qS a0 m c0) m (xs.flatMap clP) rfl HOW.o (qR w3.heap.size 0) 1 1 [qI (Fl (aE ms) m),qS ar P.bl.length cr,qI (65536+Ra (aE ms) m),qI (rnd ((P.dz.length:Int)+P.bss))] rfl rfl HCN.o (by intro u hu;simp at hu;rcases hu with rfl|rfl|rfl|rfl<;>rfl) (by unfold maxLen;omega) (by omega) (by simp;omega) ?_;intro v' w4 hown hgr _;obtain ⟨S8,PX8,O8⟩:=HQ8.o;have hrow:∀ j,(qS a0 m c0).ownBlock=some j->w.heap.size+5<=j:=(fun j hj=>(PX8.lt.1 j hj).1);have P4:=PX8.push (x:=((⟨(Fl (aE ms) m),bkx P (Fl (aE ms) m+rnd (4*(P.tz.length:Int))) P.bl.length,(65536+Ra (aE ms) m),(rnd ((P.dz.length:Int)+P.bss))⟩,ar,cr):PB)) HPL2.o.1 (by show OG _ _ _ _ _ (.slice ar (bkx P (Fl (aE ms) m+rnd (4*(P.tz.length:Int))) P.bl.length).length cr) _;rw [lH];exact O8) (by omega) HLO.o (by rw [HCL.o];exact hown) hgr (by decide);have S9:=S8.grown hgr hrow;obtain ⟨a0',c0',rfl⟩:=aS P4.head;rw [show (xs++[((⟨(Fl (aE ms) m),bkx P (Fl (aE ms) m+rnd (4*(P.tz.length:Int))) P.bl.length,(65536+Ra (aE ms) m),(rnd ((P.dz.length:Int)+P.bss))⟩,ar,cr):PB)]).length=m+1 by rw [xI,HPL2.o.1];rfl] at P4 ⊢;have p4:w4.cell? (qR (w.heap.size+4) 0)=some (qS a0 m c0):=S9.k4.cell 0;have f4:=S9.k4.frozen 0;have H9:=zh (xA S9 P4);clear S8 PX8 O8 hrow P4 S9 hown hgr HOW HQ8 p0 p0' r0 r1 r2 r3 r0' r1' r3')
   obtain ⟨S9,P9⟩:=H9.o;have t9:=aC w4 (w.heap.size+4) 0 (qS a0' (m+1) c0');have S10:Lo w (w4.setCell (qR (w.heap.size+4) 0) (qS a0' (m+1) c0')) s c k d (Fl (aE ms) (m+1)) (65536+Ra (aE ms) (m+1)) #[qS a0' (m+1) c0',qI 0,qS none 0 0,qI 0,qI 0,qS none 0 0]:=S9.set 0 (qS a0' (m+1) c0');have P10:=P9.kept t9 (fun k hk e=>by have:=(P9.lt.1 k hk).1;have e':k=w.heap.size+4:=e;omega) (fun x hx k hk e=>by have:=(P9.lt.2 x hx k hk).1;have e':k=w.heap.size+4:=e;omega);have H10:=zh (xA S10 (xA P10 (xA (show (xs++[((⟨(Fl (aE ms) m),bkx P (Fl (aE ms) m+rnd (4*(P.tz.length:Int))) P.bl.length,(65536+Ra (aE ms) m),(rnd ((P.dz.length:Int)+P.bss))⟩,ar,cr):PB)]).length=m+1 by rw [xI,HPL2.o.1];rfl) (show (xs++[((⟨(Fl (aE ms) m),bkx P (Fl (aE ms) m+rnd (4*(P.tz.length:Int))) P.bl.length,(65536+Ra (aE ms) m),(rnd ((P.dz.length:Int)+P.bss))⟩,ar,cr):PB)]).map (fun x=>x.1)=(List.range (m+1)).map (plc (aE ms)) by rw [List.map_append,HPL2.o.2,List.range_succ,List.map_append];simp only [List.map_cons,List.map_nil];rw [HPLC.o]))));clear S9 P9 t9 S10 P10 H9 p4 f4;go_wp2
   go_roundw
   .exact ⟨m+1,a0',c0',_,by omega,by go_num,H10.o.1,H10.o.2.1,H10.o.2.2.1,H10.o.2.2.2⟩
   .simp [qf,intOf];omega
  .have hlt':¬ (m:Int)<(n:Int):=by omega
   have hmn:m=n:=by omega
   subst hmn;have rF:=cL HVD.o m (by omega);have rR:=bO HVD.o m (by omega);obtain ⟨sn,rfl⟩:∃ sn:Nat,s=(sn:Int):=⟨s.toNat,by omega⟩;obtain ⟨RW,hRW⟩:=eqx (rnd (4*c));have rRW:0<=RW/\RW<=287:=by have:=aR (x:=4*c) (by omega);omega
   have HRW:=zh hRW;have c2:=S.k0.e2;have HPI:=zh (mA (w.heap.size+3) (65536+Ra (aE ms) m) k wo S.k3 (by omega) (by omega) (by omega) (by omega));have HK:=zh (aG9 hk2);have HQ:=zh (xA S (xA PX (xA xl xp)));clear S PX xl xp hRW;go_wp2_with fail
   refine HPI.o.mono ?_;rintro e w1 ⟨rfl,B1,U1⟩;rw [HK.o] at B1;obtain ⟨S,PX,xl,xp⟩:=HQ.o;have S1:=S.callR (rx':=(65536+Ra (aE ms) m)+k) U1 B1;have PX1:=PX.kept U1 (fun j hj e=>by have:=(PX.lt.1 j hj).1;have e':j=w.heap.size+3:=e;omega) (fun x hx j hj e=>by have:=(PX.lt.2 x hx j hj).1;have e':j=w.heap.size+3:=e;omega);have HXL:Zh (∀ x∈xs,∀ j,(svP x).ownBlock=some j->j<w1.heap.size):=fun x hx j hj=>(PX1.lt.2 x hx j hj).2;have y1:=S1.k4.e1;have f1:=S1.k4.frozen 1;have S2:Lo w (w1.setCell (qR (w.heap.size+1+1+1+1) 1) (qI (65536+Ra (aE ms) m))) sn c k d (Fl (aE ms) m) ((65536+Ra (aE ms) m)+k) #[qS a0 m c0,qI (65536+Ra (aE ms) m),qS none 0 0,qI 0,qI 0,qS none 0 0]:=S1.set 1 (qI (65536+Ra (aE ms) m));have t2:Turn (fun j=>j=w.heap.size+4) w1 (w1.setCell (qR (w.heap.size+1+1+1+1) 1) (qI (65536+Ra (aE ms) m))):=aC w1 (w.heap.size+4) 1 (qI (65536+Ra (aE ms) m));have PX2:=PX1.kept t2 (fun j hj e=>by have:=(PX1.lt.1 j hj).1;have e':j=w.heap.size+4:=e;omega) (fun x hx j hj e=>by have:=(PX1.lt.2 x hx j hj).1;have e':j=w.heap.size+4:=e;omega);have c0':=S2.k0.e0;have c0'':=S1.k0.e0;have hsz1:=S1.sz;have HXX:=zh (xA xl xp);have HQ2:=zh (xA S2 PX2);have HZ:=zh (show (65536+Ra (aE ms) m)+k=(65536+Ra (aE ms) m)+k+((0:Nat):Int)*RW by simp);obtain ⟨iI,hiI,hz0,hz1,hz2⟩:=info_parts jL;clear S PX xl xp S1 PX1 S2 t2 PX2 B1 U1 HPI HQ c2;go_wp2_with fail
   go_loopw [52] (fun i wx=>∃ (q:Nat) (a2:qO) (c2:Nat) (RQ:Int),q<=sn/\i=qI q/\Hid (RQ=(65536+Ra (aE ms) m)+k+(q:Int)*RW)/\Lo w wx sn c k d (Fl (aE ms) m) RQ #[qS a0 m c0,qI (65536+Ra (aE ms) m),qS a2 q c2,qI 0,qI 0,qS none 0 0]/\OG 3 1 clI wx w1.heap.size (qS a2 q c2) ((List.range q).map (slt (aE ms) c k))/\OPl wx (w.heap.size+5) (w.heap.size+5) (qS a0 m c0) xs/\w1.heap.size<=wx.heap.size) (qf sn)
   .exact ⟨0,none,0,_,xC _,rfl,HZ,HQ2.o.1,fI _ _ _ _ _,HQ2.o.2,by rw [aL];exact aN⟩
   .clear HQ2 y1 f1 c0' c0'' HZ;obtain ⟨q,a2,c2,RQ,hq,rfl,hRQ,S,O,PX,hsw⟩:=hrel
    have rRQ:0<=RQ/\RQ<=100000:=by
     have:=hRQ.out;have h1:(q:Int)*RW<=4*287:=Int.mul_le_mul (by omega) (by omega) (by omega) (by omega);have h0:0<=(q:Int)*RW:=Int.mul_nonneg (by omega) (by omega);omega
    by_cases hlt2:q<sn
    .have hlt2':(q:Int)<(sn:Int):=by omega
     have p2:=S.k4.e2;have v1:=S.k0.e1;have hwc:IntKind.i64.wrap (4*c)=4*c:=bY _ (by omega) (by omega)
     have HSU:=zh (show (List.range (q+1)).map (slt (aE ms) c k)=(List.range q).map (slt (aE ms) c k)++[RQ] by
      rw [List.range_succ,List.map_append];simp only [List.map_cons,List.map_nil];congr 2;unfold slt
      rw [hpl,hRQ.out,HRW.o])
     have HLN:=zh (show ((List.range q).map (slt (aE ms) c k)).length=q by simp);have HNQ:=zh (show RQ+RW=(65536+Ra (aE ms) m)+k+((q+1:Nat):Int)*RW by rw [hRQ.out];push_cast;rw [Int.add_mul];omega);have HO:=zh (xA S (xA O PX));have hszr:=S.sz;clear S O PX hRQ;go_wp2_with fail
     go_region_law (first
      | (refine step_append_lies _ rfl _ _ 25 rfl w1.heap.size 3 iI (qI 0) 1 8 underlying25 hiI hz0 hz1 hz2 rfl (by decide) (qS a2 q c2) q (((List.range q).map (slt (aE ms) c k)).flatMap clI) rfl HOW.o (qR wa.heap.size 0) 1 1 (clI RQ) rfl rfl (bS wa _ _ (clI RQ) rfl) (by intro u hu;simp [clI] at hu;subst hu;rfl) (by decide) (by unfold maxLen;omega) (by omega) (by simp;omega) _ rfl ?_;intro g4 c4 w4 hown hgr hat hlt4;have hrw:∀ j,(qS a2 q c2).ownBlock=some j->w.heap.size+5<=j:=(fun j hj=>by have:=(OAL.o.lt j hj).1;omega);have p4:w4.cell? (qR (w.heap.size+4) 2)=some (qS a2 q c2):=(SAL.o.grown hgr hrw).k4.cell 2;have f4:=(SAL.o.grown hgr hrw).k4.frozen 2)
      | (go_simp;go_at_call 215;refine (mA (w.heap.size+3) RQ (4*c) _ (by first|exact HO.o.1.k3|exact HO.o.1.drew.k3) (by omega) (by omega) (by omega) (by omega)).mono ?_;rintro e wa ⟨rfl,Ba,Ua⟩;rw [<- HRW.o] at Ba;have Ua':Turn (fun j=>j=w.heap.size+3) wr wa:=⟨Ua.os,Ua.tape,Ua.output,Ua.size,Ua.block⟩;have SA:=HO.o.1.callR (rx':=RQ+RW) Ua' Ba;have hsa:=Ua'.size;have OA:=HO.o.2.1.kept Ua' (fun j hj e=>by have:=(HO.o.2.1.lt j hj).1;have e':j=w.heap.size+3:=e;omega);have XA:=HO.o.2.2.kept Ua' (fun j hj e=>by have:=(HO.o.2.2.lt.1 j hj).1;have e':j=w.heap.size+3:=e;omega) (fun x hx j hj e=>by have:=(HO.o.2.2.lt.2 x hx j hj).1;have e':j=w.heap.size+3:=e;omega);have al:qY wa (wa.alloc (.cells #[qI RQ] 3)):=brf.alloc aN _;have pa:wa.cell? (qR (w.heap.size+4) 2)=some (qS a2 q c2):=SA.k4.cell 2;have SAL:=zh (SA.bw al);have OAL:=zh (OA.bw al);have XAL:=zh (XA.bw al);have pb:(wa.alloc (.cells #[qI RQ] 3)).cell? (qR (w.heap.size+4) 2)=some (qS a2 q c2):=SAL.o.k4.cell 2;have va:wa.cell? (qR w.heap.size 1)=some (qI c):=SA.k0.cell 1;have HOW:=zh (show (wa.alloc (.cells #[qI RQ] 3)).ownsRow w1.heap.size 3 1 (qS a2 q c2) q (((List.range q).map (slt (aE ms) c k)).flatMap clI) by have:=OAL.o;unfold OG at this;rw [HLN.o] at this;exact this);clear Ba Ua Ua' SA OA XA al))
     all_goals
      have S4:=SAL.o.grown hgr hrw
      have O4:OG 3 1 clI w4 w1.heap.size (qS (qP g4) (q+1) c4) ((List.range (q+1)).map (slt (aE ms) c k)):=by
       unfold OG;rw [HSU.o,xI,HLN.o,xU,xX];exact hown
      have X4:OPl w4 (w.heap.size+5) (w.heap.size+5) (qS a0 m c0) xs:=⟨XAL.o.head.kept' hgr (fun k hk e=>by obtain ⟨cc,k1⟩:=aD OAL.o e;exact aM XAL.o.head hk k1 (by decide)),fun x hx=>(XAL.o.rows x hx).kept' hgr (fun k hk e=>by have h1:=(OAL.o.lt k e).1;have h2:=HXL.o x hx k hk;omega),XAL.o.apart⟩;have t5:=aC w4 (w.heap.size+4) 2 (qS (qP g4) (q+1) c4);have S5:Lo w (w4.setCell (qR (w.heap.size+4) 2) (qS (qP g4) (q+1) c4)) sn c k d (Fl (aE ms) m) (RQ+RW) #[qS a0 m c0,qI (65536+Ra (aE ms) m),qS (qP g4) (q+1) c4,qI 0,qI 0,qS none 0 0]:=S4.set 2 (qS (qP g4) (q+1) c4);have O5:=O4.kept t5 (fun k hk e=>by have:=(O4.lt k hk).1;have e':k=w.heap.size+4:=e;omega);have X5:=X4.kept t5 (fun k hk e=>by have:=(X4.lt.1 k hk).1;have e':k=w.heap.size+4:=e;omega) (fun x hx k hk e=>by have:=(X4.lt.2 x hx k hk).1;have e':k=w.heap.size+4:=e;omega)
      have hs5:w1.heap.size<=(w4.setCell (qR (w.heap.size+4) 2) (qS (qP g4) (q+1) c4)).heap.size:=by
       have h1:=hgr.size;have h2:(wa.alloc (.cells #[qI RQ] 3)).heap.size=wa.heap.size+1:=by simp
       rw [aL]
       first|omega|(
        have h3:wa.heap.size<=w4.heap.size:=by (try simp at h1);omega
        omega)
      have H5:=zh (xA S5 (xA O5 (xA X5 hs5)));clear S4 O4 X4 t5 S5 O5 X5 hs5 SAL OAL XAL HOW hown hgr hat hlt4 hrw p4 f4 pa pb va HO p2 v1;go_wp2
      go_roundw
      .exact ⟨q+1,_,_,_,by omega,by go_num,HNQ,H5.o.1,H5.o.2.1,H5.o.2.2.1,H5.o.2.2.2⟩
      .simp [qf,intOf];omega
    .have hlt2':¬ (q:Int)<(sn:Int):=by omega
     have hqs:q=sn:=by omega
     have hRQ0:65536<=RQ:=by
      have:=hRQ.out;have h0:0<=(q:Int)*RW:=Int.mul_nonneg (by omega) (by omega);omega
     have hw:IntKind.i64.wrap (RQ-65536)=RQ-65536:=bY _ (by omega) (by omega);have S1:Lo w (wr.setCell (qR (w.heap.size+1+1+1+1) 3) (qI (Fl (aE ms) m))) sn c k d (Fl (aE ms) m) RQ #[qS a0 m c0,qI (65536+Ra (aE ms) m),qS a2 q c2,qI (Fl (aE ms) m),qI 0,qS none 0 0]:=S.set 3 (qI (Fl (aE ms) m));have S2:Lo w ((wr.setCell (qR (w.heap.size+1+1+1+1) 3) (qI (Fl (aE ms) m))).setCell (qR (w.heap.size+1+1+1+1) 4) (qI (RQ-65536))) sn c k d (Fl (aE ms) m) RQ #[qS a0 m c0,qI (65536+Ra (aE ms) m),qS a2 q c2,qI (Fl (aE ms) m),qI (RQ-65536),qS none 0 0]:=S1.set 4 (qI (RQ-65536));have t1:Turn (fun j=>j=w.heap.size+4) wr (wr.setCell (qR (w.heap.size+1+1+1+1) 3) (qI (Fl (aE ms) m))):=aC wr (w.heap.size+4) 3 (qI (Fl (aE ms) m));have t2:Turn (fun j=>j=w.heap.size+4) (wr.setCell (qR (w.heap.size+1+1+1+1) 3) (qI (Fl (aE ms) m))) ((wr.setCell (qR (w.heap.size+1+1+1+1) 3) (qI (Fl (aE ms) m))).setCell (qR (w.heap.size+1+1+1+1) 4) (qI (RQ-65536))):=aC _ (w.heap.size+4) 4 (qI (RQ-65536));have t12:=t1.trans t2;have O2:=O.kept t12 (fun k hk e=>by have:=(O.lt k hk).1;have e':k=w.heap.size+4:=e;omega);have X2:=PX.kept t12 (fun k hk e=>by have:=(PX.lt.1 k hk).1;have e':k=w.heap.size+4:=e;omega) (fun x hx k hk e=>by have:=(PX.lt.2 x hx k hk).1;have e':k=w.heap.size+4:=e;omega);have a0c:=S.k2.e0;have b0c:=S1.k3.e0;have b0c':=S.k3.e0;have l3:=S.k4.e3;have n3:=S.k4.frozen 3;have l4:=S1.k4.e4;have l4':=S.k4.e4;have n4:=S1.k4.frozen 4;have n4':=S.k4.frozen 4;obtain ⟨v0,v1,v2,v3,v4,v5⟩:=S2.k4.z6;obtain ⟨u0,u1,u2,u3,u4,u5⟩:=S2.k1.z6;have z0:=S2.k1.frozen 0;have z1:=S2.k1.frozen 1;have z2:=S2.k1.frozen 2;have z3:=S2.k1.frozen 3;have z4:=S2.k1.frozen 4;have z5:=S2.k1.frozen 5
     have HLAY:=zh (show lay (aE ms) sn c k=⟨(List.range m).map (plc (aE ms)),(65536+Ra (aE ms) m),(List.range q).map (slt (aE ms) c k),(Fl (aE ms) m),RQ-65536,(List.range m).map fun i=>tgs (aE ms) ((aE ms).getD i zP)⟩ by
      unfold lay;rw [hpl,hRQ.out,HRW.o,xY,hqs];congr 1
      omega)
     have t26:=cD ((wr.setCell (qR (w.heap.size+1+1+1+1) 3) (qI (Fl (aE ms) m))).setCell (qR (w.heap.size+1+1+1+1) 4) (qI (RQ-65536))) (w.heap.size+1) (qS a0 m c0) (qI (65536+Ra (aE ms) m)) (qS a2 q c2) (qI (Fl (aE ms) m)) (qI (RQ-65536)) (qS none 0 0);have X26:=X2.kept t26 (fun k hk e=>by have:=(X2.lt.1 k hk).1;have e':k=w.heap.size+1:=e;omega) (fun x hx k hk e=>by have:=(X2.lt.2 x hx k hk).1;have e':k=w.heap.size+1:=e;omega);have O26:=O2.kept t26 (fun k hk e=>by have:=(O2.lt k hk).1;have e':k=w.heap.size+1:=e;omega);have B26:=aG S2.be t26 (fun j hj=>by have e':j=w.heap.size+1:=hj;omega) S2.be.size;have SP:∀ j,(qS a2 q c2).ownBlock=some j->∀ x∈xs,(svP x).ownBlock≠some j:=fun j hj x hx e=>by have h1:=(O.lt j hj).1;have h2:=HXL.o x hx j e;omega
     have HFIN:=zh (xA S2.k1 (xA X26 (xA O26 (xA B26 SP))));clear S S1 S2 t1 t2 t12 O PX O2 X2 t26 X26 O26 B26 SP hqs hRQ;go_wp2;refine aKa HFIN.o.1 _ _ _ _ _ _ _ _ rfl ?_;obtain ⟨_,X26,O26,B26,SP⟩:=HFIN.o;refine ⟨B26,a0,c0,xs,a2,c2,?_,?_⟩
     .unfold mF;rw [HLAY.o,HXX.o.1];simp
     .rw [HLAY.o];exact ⟨by rw [HXX.o.1];exact X26.mono (by omega) (by omega),HXX.o.2,by simpa using O26.mono (by omega),aAa,rfl,by simpa using SP⟩
structure Kin (w W:qw)(s c k d:Int):Prop where
 be:qY w W
 k0:Blk W w.heap.size (qW s c k d) 37
 k1:Blk W (w.heap.size+1) zL 71
theorem Kin.bw {w W W':qw}(h:Kin w W s c k d)(hb:qY W W'):Kin w W' s c k d:=⟨h.be.trans (hb.mono h.be.size),h.k0.bw hb,h.k1.bw hb⟩
theorem Kin.drew {w W:qw}(h:Kin w W s c k d):Kin w W.drew s c k d:=⟨h.be.drew,h.k0,h.k1⟩
theorem aMu (w:qw)(s c k d:Int):Kin w ((w.alloc (.cells (qW s c k d) 37)).alloc (.cells qz 71)) s c k d:=by
 have k0:=Blk.new w (qW s c k d) 37;have b0:qY w (w.alloc (.cells (qW s c k d) 37)):=bal;have s0:(w.alloc (.cells (qW s c k d) 37)).heap.size=w.heap.size+1:=by simp
 generalize w.alloc (.cells (qW s c k d) 37)=W0 at *;have k1:=Blk.new W0 qz 71;have b1:qY W0 (W0.alloc (.cells qz 71)):=bal;rw [s0] at k1;exact ⟨b0.trans (b1.mono (by omega)),k0.bw b1,k1⟩
theorem wQ {w W:qw}(k1:Blk W (w.heap.size+1) zL 71)(v0 v1 v2 v3 v4 v5:Value)(V:Int)(Q:Ending->World->Prop)(tmps:Array Value)(h4:tmps[4]?=some (.pointer (some (qR (w.heap.size+1) 0))))(h5:tmps[5]?=some (qI V))(hQ:Q (.returned (.tuple #[.agg #[v0,v1,v2,v3,v4,v5],qI V])) (st6 W (w.heap.size+1) v0 v1 v2 v3 v4 v5)):
 bodyPost prog f153 Q Exit.ret ⟨tmps,[]⟩ (st6 W (w.heap.size+1) v0 v1 v2 v3 v4 v5):=by
 have k:=jI k1 v0 v1 v2 v3 v4 v5;obtain ⟨t0,t1,t2,t3,t4,t5⟩:=k.z6;refine bodyPost_ret_by (v:=.tuple #[.agg #[v0,v1,v2,v3,v4,v5],qI V]) ?_ rfl hQ;simp [results,results153,go_sem,h4,h5,t0,t1,t2,t3,t4,t5]
theorem kD {w W:qw}{ps:List PMod}{V:Int}(S:Kin w W s c k d)(hV:lkc ps s c k d=V)(h0:V≠0)(tmps:Array Value)(h4:tmps[4]?=some (.pointer (some (qR (w.heap.size+1) 0))))(h5:tmps[5]?=some (qI V)):
 bodyPost prog f153 (LkM w ps s c k d) Exit.ret ⟨tmps,[]⟩ (st6 W (w.heap.size+1) (qS none 0 0) (qI 0) (qS none 0 0) (qI 0) (qI 0) (qS none 0 0)):=
 wQ S.k1 _ _ _ _ _ _ V _ tmps h4 h5 (aF4 (aG S.be (cD _ _ _ _ _ _ _ _) (fun j hj=>by have e:j=w.heap.size+1:=hj;omega) S.be.size) hV h0)
structure Hd where
 a1:qO
 tn:Nat
 c1:Nat
 a2:qO
 bn:Nat
 c2:Nat
 f:Nat->qO×Nat×Nat
 a3:qO
 dn:Nat
 c3:Nat
 a5:qO
 rn:Nat
 c5:Nat
 a6:qO
 im:Nat
 c6:Nat
 a7:qO
 en:Nat
 c7:Nat
structure Ct where
 nm:ByteArray
 T:List Int
 X:Nat->List Int
 D:List Int
 s:Int
 R:List Int
 I:List ByteArray
 E:List Ex
def zHd:Hd:=⟨none,0,0,none,0,0,fun _=>(none,0,0),none,0,0,none,0,0,none,0,0,none,0,0⟩
def clH (x:Hd×Ct):List Value:=[.string x.2.nm,qS x.1.a1 x.1.tn x.1.c1,qS x.1.a2 x.1.bn x.1.c2,qS x.1.a3 x.1.dn x.1.c3,qI x.2.s,qS x.1.a5 x.1.rn x.1.c5,qS x.1.a6 x.1.im x.1.c6,qS x.1.a7 x.1.en x.1.c7]
abbrev M6h (W:qw)(base:Nat)(x:Hd×Ct):Prop:=M6 W base (qS x.1.a1 x.1.tn x.1.c1) (qS x.1.a3 x.1.dn x.1.c3) (qS x.1.a5 x.1.rn x.1.c5) (qS x.1.a6 x.1.im x.1.c6) (qS x.1.a7 x.1.en x.1.c7) x.1.a2 x.1.bn x.1.f x.2.T x.2.X x.2.D x.2.R x.2.I x.2.E
def Sh (h:Hd)(j:Nat):Prop:=(qS h.a1 h.tn h.c1).ownBlock=some j\/Sr h.f h.bn j\/(qS h.a3 h.dn h.c3).ownBlock=some j\/(qS h.a5 h.rn h.c5).ownBlock=some j\/(qS h.a6 h.im h.c6).ownBlock=some j\/(qS h.a7 h.en h.c7).ownBlock=some j
theorem M6h.sh {W:qw}{x:Hd×Ct}(h:M6h W base x)(hj:Sh x.1 j):(base<=j/\j<W.heap.size)/\∃ cs t,Blk W j cs t/\(t=3\/t=5\/t=9\/t=163):=by
 rcases hj with e|e|e|e|e|e
 .obtain ⟨cs,k⟩:=aD h.t.1 e;exact ⟨h.t.lt j e,cs,_,k,.inl rfl⟩
 .obtain ⟨cs,k⟩:=h.b.kind e;exact ⟨h.lt.2.1 j e,cs,_,k,.inl rfl⟩
 .obtain ⟨cs,k⟩:=aD h.d.1 e;exact ⟨h.d.lt j e,cs,_,k,.inr (.inl rfl)⟩
 .obtain ⟨cs,k⟩:=aD h.r.1 e;exact ⟨h.r.lt j e,cs,_,k,.inl rfl⟩
 .obtain ⟨cs,k⟩:=aD h.i e;exact ⟨h.i.lt j e,cs,_,k,.inr (.inr (.inl rfl))⟩
 .obtain ⟨cs,k⟩:=aD h.e e;exact ⟨h.e.lt j e,cs,_,k,.inr (.inr (.inr rfl))⟩
theorem M6h.no {W:qw}{x:Hd×Ct}(h:M6h W base x)(hj:Sh x.1 j){t:TypeId}(hb:Blk W j cs t)(ht:t≠3/\t≠5/\t≠9/\t≠163):False:=by
 obtain ⟨_,cs',t',kb,h|h|h|h⟩:=h.sh hj
 all_goals
  subst h;have:=aI hb kb;simp_all
theorem M6h.kept {W W':qw}{x:Hd×Ct}(h:M6h W base x)(t:Turn S W W')(h1:∀ j,Sh x.1 j->¬ S j)(h2:∀ j cs,Blk W j cs 25->¬ S j):M6h W' base x:=
 ⟨aW t h.t (fun k hk=>h1 k (.inl hk)),h.b.kept t (fun i hi k hk=>h1 k (.inr (.inl ⟨i,hi,hk⟩))) (fun _ g cs _ hb=>h2 g cs hb),aU t h.d (fun k hk=>h1 k (.inr (.inr (.inl hk)))),aW t h.r (fun k hk=>h1 k (.inr (.inr (.inr (.inl hk))))),h.i.kept t (fun k hk=>h1 k (.inr (.inr (.inr (.inr (.inl hk)))))),h.e.kept t (fun k hk=>h1 k (.inr (.inr (.inr (.inr (.inr hk)))))),h.tr,h.tb,h.rb⟩
structure OMs (W:qw)(base:Nat)(v:Value)(L:List (Hd×Ct))(β:Nat->Nat):Prop where
 o:OG 138 8 clH W base v L
 m:∀ (i:Nat) (x:Hd×Ct),L[i]?=some x->M6h W (β i) x/\∀ j,Sh x.1 j->j<β (i+1)
 mono:∀ i k,i<=k->k<=L.length->β i<=β k
theorem dH {α:Type}{L:List α}{x:α}(h:L[i]?=some x):i<L.length:=by
 rcases Nat.lt_or_ge i L.length with h'|h'
 .exact h'
 .rw [xO h'] at h;simp at h
theorem aKl {α:Type}{L:List α}{x' x:α}(h:(L.set i x')[j]?=some x):(j=i/\x=x')\/(j≠i/\L[j]?=some x):=by
 rw [List.getElem?_set] at h;split at h
 .rename_i e;split at h
  .simp at h;exact .inl ⟨e.symm,h.symm⟩
  .simp at h
 .rename_i e;exact .inr ⟨fun q=>e q.symm,h⟩
theorem OMs.apart {W:qw}{L:List (Hd×Ct)}(H:OMs W base v L β){k:Nat}{x y:Hd×Ct}(hx:L[i]?=some x)(hy:L[k]?=some y)(hik:k≠i):∀ j,Sh y.1 j->¬ Sh x.1 j:=fun j h1 h2=>by
 have li:=dH hx;have lk:=dH hy;have a1:=(H.m i x hx).2 j h2;have a2:=((H.m i x hx).1.sh h2).1.1;have b1:=(H.m k y hy).2 j h1;have b2:=((H.m k y hy).1.sh h1).1.1;rcases Nat.lt_or_gt_of_ne hik with h|h
 .have:=H.mono (k+1) i h (by omega);omega
 .have:=H.mono (i+1) k h (by omega);omega
theorem OMs.bw {W W':qw}{L:List (Hd×Ct)}(H:OMs W base v L β)(hb:qY W W'):OMs W' base v L β:=⟨H.o.bw hb,fun i x hx=>⟨(H.m i x hx).1.bw hb,(H.m i x hx).2⟩,H.mono⟩
theorem OMs.kept {W W':qw}{L:List (Hd×Ct)}(H:OMs W base v L β)(t:Turn S W W')(h0:∀ j,v.ownBlock=some j->¬ S j)(h1:∀ (i:Nat) (x:Hd×Ct),L[i]?=some x->∀ j,Sh x.1 j->¬ S j)(h2:∀ j cs,Blk W j cs 25->¬ S j):OMs W' base v L β:=
 ⟨H.o.kept t h0,fun i x hx=>⟨(H.m i x hx).1.kept t (h1 i x hx) h2,(H.m i x hx).2⟩,H.mono⟩
theorem aGc {α:Type}{f:α->List Value}(hf:∀ x,(f x).length=8)(v:Value)(x':α)(j:Nat)(hj:j<8):∀ (L:List α) (i:Nat) (x:α),L[i]?=some x->f x'=(f x).set j v->(L.flatMap f).set (i*8+j) v=(L.set i x').flatMap f
 | [],i,x,h,e=>by simp at h
 | y::L,0,x,h,e=>by
   simp at h;subst h;rw [List.set_cons_zero,xT,xT,e,Nat.zero_mul,Nat.zero_add];exact List.set_append_left _ _ (by rw [hf];exact hj)
 | y::L,i+1,x,h,e=>by
   rw [List.set_cons_succ,xT,xT,<- aGc hf v x' j hj L i x (by simpa using h) e,List.set_append_right _ _ (by rw [hf];omega)];congr 2;rw [hf];omega
theorem aGd {α:Type}{f:α->List Value}(x':α):∀ (L:List α) (i:Nat) (x:α),L[i]?=some x->f x'=f x->(L.set i x').flatMap f=L.flatMap f
 | [],i,x,h,e=>by simp at h
 | y::L,0,x,h,e=>by
   simp at h;subst h;rw [List.set_cons_zero,xT,xT,e]
 | y::L,i+1,x,h,e=>by
   rw [List.set_cons_succ,xT,xT,aGd x' L i x (by simpa using h) e]
theorem aAw {α:Type}{f:α->List Value}(hf:∀ x,(f x).length=8):∀ (L:List α) (i:Nat) (x:α),L[i]?=some x->∀ j,j<8->(L.flatMap f)[i*8+j]?=(f x)[j]?
 | [],i,x,h,j,hj=>by simp at h
 | y::L,0,x,h,j,hj=>by
   simp at h;subst h;rw [xT,Nat.zero_mul,Nat.zero_add,List.getElem?_append_left (by rw [hf];exact hj)]
 | y::L,i+1,x,h,j,hj=>by
   rw [xT,List.getElem?_append_right (by rw [hf];omega),hf,show (i+1)*8+j-8=i*8+j by omega];exact aAw hf L i x (by simpa using h) j hj
theorem aJg {W:qw}{t:TypeId}{sz:Nat}{xs:List Value}(h:W.ownsRow base t sz (qS (qP g) n cap) n xs)(k:Nat)(v:Value):(W.setCell (qR g k) v).ownsRow base t sz (qS (qP g) n cap) n (xs.set k v):=by
 obtain ⟨hl,⟨h0,_⟩|⟨g',cap',cur,hv,hg,hh,h1,h2,h3,h4⟩⟩:=h
 .simp at h0
 .simp at hv;obtain ⟨rfl,rfl⟩:=hv;refine ⟨by simpa using hl,.inr ⟨g,cap,cur.setIfInBounds k v,rfl,hg,Blk.set (w:=W) hh k v,h1,h2,by simpa using h3,?_⟩⟩;rw [xW,List.take_set,h4]
theorem OMs.mod {W W':qw}{L:List (Hd×Ct)}{h:Hd}{c c':Ct}(H:OMs W base v L β)(hx:L[i]?=some (h,c))(M':M6h W' (β i) (h,c'))(e:clH (h,c')=clH (h,c))(hS:∀ j,S j->Sh h j)(T:Turn S W W'):OMs W' base v (L.set i (h,c')) β:=by
 have hX:=H.m i _ hx;refine ⟨?_,fun k y hy=>?_,by rw [List.length_set];exact H.mono⟩
 .have o':=H.o.kept T (fun k hk s=>by
   obtain ⟨c1,k1⟩:=aD H.o hk
   exact hX.1.no (hS k s) k1 (by decide))
  unfold OG at o' ⊢;rw [aGd (h,c') L i (h,c) hx e,List.length_set];exact o'
 .rcases aKl hy with ⟨rfl,rfl⟩|⟨hk,hy⟩
  .exact ⟨M',hX.2⟩
  .exact ⟨(H.m k y hy).1.kept T (fun j hj s=>H.apart hx hy hk j hj (hS j s)) (fun j cs hb s=>hX.1.no (hS j s) hb (by decide)),(H.m k y hy).2⟩
theorem OMs.cell {W:qw}{L:List (Hd×Ct)}{h:Hd}{c c':Ct}(H:OMs W base (qS (qP g) n cap) L β)(hn:L.length=n)(hx:L[i]?=some (h,c))(j:Nat)(hj:j<8)(u:Value)(e:clH (h,c')=(clH (h,c)).set j u)(hM:M6h W (β i) (h,c')):OMs (W.setCell (qR g (i*8+j)) u) base (qS (qP g) n cap) (L.set i (h,c')) β:=by
 have T:=aC W g (i*8+j) u;obtain ⟨cg,kg⟩:=aD H.o (k:=g) rfl
 have k1:∀ (y:Hd×Ct) (b:Nat),M6h W b y->M6h (W.setCell (qR g (i*8+j)) u) b y:=fun y b hy=>hy.kept T (fun q hq s=>by
  subst s
  exact hy.no hq kg (by decide)) (fun q cs hb s=>by subst s;exact absurd (aI kg hb) (by decide))
 refine ⟨?_,fun k y hy=>?_,by rw [List.length_set];exact H.mono⟩
 .have o:=H.o;unfold OG at o ⊢;rw [<- aGc (fun _=>rfl) u (h,c') j hj L i (h,c) hx e,List.length_set];rw [hn] at o ⊢;exact aJg o (i*8+j) u
 .rcases aKl hy with ⟨rfl,rfl⟩|⟨hk,hy⟩
  .exact ⟨k1 _ _ hM,(H.m k _ hx).2⟩
  .exact ⟨k1 _ _ (H.m k y hy).1,(H.m k y hy).2⟩
theorem OMs.at {W:qw}{base g n cap:Nat}{L:List (Hd×Ct)}{β:Nat->Nat}{i:Nat}{x:Hd×Ct}(H:OMs W base (qS (qP g) n cap) L β)(hx:L[i]?=some x):(W.cell? (qR g (i*8))=some (.string x.2.nm)/\W.cell? (qR g (i*8+1))=some (qS x.1.a1 x.1.tn x.1.c1)/\W.cell? (qR g (i*8+2))=some (qS x.1.a2 x.1.bn x.1.c2)/\W.cell? (qR g (i*8+3))=some (qS x.1.a3 x.1.dn x.1.c3)/\W.cell? (qR g (i*8+4))=some (qI x.2.s)/\W.cell? (qR g (i*8+5))=some (qS x.1.a5 x.1.rn x.1.c5)/\W.cell? (qR g (i*8+6))=some (qS x.1.a6 x.1.im x.1.c6)/\W.cell? (qR g (i*8+7))=some (qS x.1.a7 x.1.en x.1.c7))/\∀ j,W.frozen? (qR g j)=false:=by
 have k:∀ j,j<8->∀ u,(clH x)[j]?=some u->W.cell? (qR g (i*8+j))=some u:=fun j hj u hu=>by
  have q:=World.ownsRow.cells H.o (g:=g) rfl _ _ ((aAw (fun _=>rfl) L i x hx j hj).trans hu)
  rwa [bN,Nat.zero_add] at q
 obtain ⟨cs,kb⟩:=aD H.o (k:=g) rfl;exact ⟨⟨k 0 (by omega) _ rfl,k 1 (by omega) _ rfl,k 2 (by omega) _ rfl,k 3 (by omega) _ rfl,k 4 (by omega) _ rfl,k 5 (by omega) _ rfl,k 6 (by omega) _ rfl,k 7 (by omega) _ rfl⟩,fun j=>kb.frozen j⟩
def aY (h:Hd):Nat:=2+h.tn+bJ h.f h.bn+h.dn+h.rn+h.im+3*h.en
def mkC (h:Hd)(k:Nat):Ct:=⟨mtx k,bE (k+1) h.tn,mrk (k+1+h.tn) h.f,cH (k+1+h.tn+bJ h.f h.bn) h.dn,((k+1+h.tn+bJ h.f h.bn+h.dn:Nat):Int),bE (k+1+h.tn+bJ h.f h.bn+h.dn+1) h.rn,fJ (k+1+h.tn+bJ h.f h.bn+h.dn+1+h.rn) h.im,gG (k+1+h.tn+bJ h.f h.bn+h.dn+1+h.rn+h.im) h.en⟩
theorem tN {α:Type}(f:α -> List Value)(sz:Nat)(hf:∀ x,(f x).length=sz):∀ xs:List α,(xs.flatMap f).length=xs.length*sz
 | []=>by simp
 | x::xs=>by simp only [xT,xI,List.length_cons,tN f sz hf xs,hf x];rw [Nat.add_mul];omega
theorem tO {α:Type}(f:α -> List Value)(sz:Nat)(hf:∀ x,(f x).length=sz)(z:α):∀ (xs:List α) (i j:Nat),i<xs.length->j<sz->(xs.flatMap f)[i*sz+j]?=(f (xs.getD i z))[j]?
 | [],i,j,h,_=>by simp at h
 | x::xs,0,j,h,hj=>by simp [List.getElem?_append_left (show j<(f x).length by rw [hf];exact hj)]
 | x::xs,i+1,j,h,hj=>by
   have ih:=tO f sz hf z xs i j (by simpa using h) hj;have e:(i+1)*sz+j=(f x).length+(i*sz+j):=by rw [hf,Nat.add_mul];omega
   rw [xT,e,List.getElem?_append_right (by omega),Nat.add_sub_cancel_left,ih];simp
theorem aGy {α:Type}(f:α -> List Value)(sz:Nat)(hf:∀ x,(f x).length=sz)(z:α){xs:List α}(h:cs.size=xs.length*sz)(hs:0<sz)(hc:∀ i,i<xs.length->∀ j,j<sz->cs[i*sz+j]?=(f (xs.getD i z))[j]?):cs.toList.take (xs.length*sz)=xs.flatMap f:=by
 apply List.ext_getElem?;intro k;by_cases hk:k<xs.length*sz
 .have e:k=k/sz*sz+k%sz:=by rw [Nat.mul_comm];exact (Nat.div_add_mod k sz).symm
  have h1:k/sz<xs.length:=by rw [Nat.div_lt_iff_lt_mul hs];exact hk
  have h2:k%sz<sz:=Nat.mod_lt _ hs;rw [List.getElem?_take,if_pos hk,Array.getElem?_toList];rw [e,hc _ h1 _ h2,tO f sz hf z xs _ _ h1 h2]
 .rw [xO (by simp;omega),xO (by rw [tN f sz hf];omega)]
def RowF {α:Type}(t:TypeId)(sz:Nat)(f:α->List Value)(w:qw)(g n:Nat)(F:Nat->α):Prop:=
 ∃ cs,Blk w g cs t/\cs.size=n*sz/\∀ i,i<n->∀ j,j<sz->cs[i*sz+j]?=(f (F i))[j]?
section
variable {α:Type}{t:TypeId}{sz:Nat}{f:α->List Value}{w w':qw}{g n:Nat}{F:Nat->α}
theorem RowF.bw (h:RowF t sz f w g n F)(hb:qY w w'):RowF t sz f w' g n F:=by
 obtain ⟨cs,h1,h2,h3⟩:=h;exact ⟨cs,h1.bw hb,h2,h3⟩
theorem RowF.blk (h:RowF t sz f w g n F):∃ cs,Blk w g cs t:=by obtain ⟨cs,h1,_⟩:=h;exact ⟨cs,h1⟩
theorem RowF.cell (h:RowF t sz f w g n F)(hf:∀ x,(f x).length=sz)(i j:Nat)(hi:i<n)(hj:j<sz)(v:Value)(hv:(f (F i))[j]?=some v):w.cell? (qR g (i*sz+j))=some v:=by
 obtain ⟨cs,h1,h2,h3⟩:=h;rw [h1.cell,h3 i hi j hj,hv]
theorem RowF.og (h:RowF t sz f w g n F)(hf:∀ x,(f x).length=sz)(hs:0<sz)(hg:base<=g)(hn:n<=maxLen){xs:List α}(hl:xs.length=n)(z:α)(he:∀ i,i<n->F i=xs.getD i z):OG t sz f w base (qS (qP g) n n) xs:=by
 obtain ⟨cs,h1,h2,h3⟩:=h;subst hl;refine ⟨tN f sz hf xs,.inr ⟨g,xs.length,cs,rfl,hg,h1,aN,hn,h2,aGy f sz hf z h2 hs (fun i hi j hj=>?_)⟩⟩;rw [h3 i hi j hj,he i hi]
theorem wH (z0:α)(v:Value)(hv:v.cells.toList=f z0)(hs:sz=v.cells.size)(h:w.ownsRow base t sz (qS (qP g) n n) n (madeCells v.cells (n*sz)).toList):RowF t sz f w g n (fun _=>z0):=by
 obtain ⟨hl,h|⟨g',cap,cur,hv',hb,hh,h1,h2,h3,h4⟩⟩:=h
 .simp at h
 .simp at hv';obtain ⟨rfl,rfl⟩:=hv'
  have e:cur.toList=(madeCells v.cells (n*sz)).toList:=by
   rw [<- h4,xG (by simp [h3])]
  have e2:cur=madeCells v.cells (n*sz):=Array.toList_inj.1 e;refine ⟨cur,hh,h3,fun i hi j hj=>?_⟩
  have hlt:i*sz+j<n*sz:=by
   have:(i+1)*sz<=n*sz:=Nat.mul_le_mul_right _ (by omega);rw [Nat.add_mul] at this;omega
  have hm:(i*sz+j)%v.cells.size=j:=by rw [<- hs,Nat.mul_comm,Nat.mul_add_mod];exact Nat.mod_eq_of_lt hj
  rw [e2,<- hv];simp [madeCells,hlt,hm,show j<v.cells.size by omega]
theorem aGm (h:i<cs.size):(cs.setIfInBounds i v)[i]?=some v:=by simp [h]
theorem RowF.set4 (h:RowF t 4 f w g n F)(m:Nat)(hm:m<n)(x:α)(a b c d:Value)(hx:f x=[a,b,c,d]):RowF t 4 f ((((w.setCell (qR g (m*4)) a).setCell (qR g (m*4+1)) b).setCell (qR g (m*4+2)) c).setCell (qR g (m*4+3)) d) g n (fun i=>if i=m then x else F i):=by
 obtain ⟨cs,h1,h2,h3⟩:=h;refine ⟨_,(((h1.set (m*4) a).set (m*4+1) b).set (m*4+2) c).set (m*4+3) d,by simp [h2],fun i hi j hj=>?_⟩;by_cases e:i=m
 .subst e;simp only [if_true,hx]
  match j,hj with
  | 0,_=>exact cK (cK (cK (aGm (by rw [h2];omega))))
  | 1,_=>exact cK (cK (aGm (by simp [h2];omega)))
  | 2,_=>exact cK (aGm (by simp [h2];omega))
  | 3,_=>exact aGm (by simp [h2];omega)
 .simp only [e,if_false];rw [Array.getElem?_setIfInBounds_ne (by omega),Array.getElem?_setIfInBounds_ne (by omega),Array.getElem?_setIfInBounds_ne (by omega),Array.getElem?_setIfInBounds_ne (by omega)];exact h3 i hi j hj
end
section
variable {α β:Type}{th:TypeId}{hs:Nat}{hc:α->List Value}{tr:TypeId}{rs:Nat}{rc:β->List Value}{sv:α->Value}{ct:α->List β}{w w':qw}{base g n:Nat}{f:Nat->α}
end
abbrev SlT:=Bool×Int×Int×Int
abbrev FrT:=Int×Int×Int×Int
def zSl:SlT:=(false,0,0,0)
def zFr:FrT:=(0,0,0,0)
def bR (x:SlT):List Value:=[.bool x.1,qI x.2.1,qI x.2.2.1,qI x.2.2.2]
def cO (x:FrT):List Value:=[qI x.1,qI x.2.1,qI x.2.2.1,qI x.2.2.2]
theorem bM:∀ x:SlT,(bR x).length=4:=fun x=>rfl
theorem cQ:∀ x:FrT,(cO x).length=4:=fun x=>rfl
def QS {α:Type}(f:α->List Value)(z:α)(w:qw)(a:qO)(n cap:Nat)(xs:List α):Prop:=
 xs.length=n/\n<=maxLen/\(n≠0->∃ b off,a=some (qR b off)/\∀ i,i<n->∀ j v,(f (xs.getD i z))[j]?=some v->w.cell? (qR b (off+i*4+j))=some v)/\n<=cap
section
variable {α:Type}{f:α->List Value}{z:α}{w w':qw}{a:qO}{n cap:Nat}{xs:List α}
theorem QS.bw (h:QS f z w a n cap xs)(hb:qY w w'):QS f z w' a n cap xs:=by
 obtain ⟨h1,h2,h3,h4⟩:=h;refine ⟨h1,h2,fun hn=>?_,h4⟩;obtain ⟨b,off,e,hc⟩:=h3 hn;exact ⟨b,off,e,fun i hi j v hv=>aB hb (hc i hi j v hv)⟩
theorem QS.at (h:QS f z w a n cap xs)(i:Nat)(hi:i<n)(v0 v1 v2 v3:Value)(hf:f (xs.getD i z)=[v0,v1,v2,v3]):∃ b off,a=some (qR b off)/\w.cell? (qR b (off+i*4))=some v0/\w.cell? (qR b (off+i*4+1))=some v1/\w.cell? (qR b (off+i*4+2))=some v2/\w.cell? (qR b (off+i*4+3))=some v3:=by
 obtain ⟨b,off,e,hc⟩:=h.2.2.1 (by omega);have k:=hc i hi;rw [hf] at k;exact ⟨b,off,e,k 0 _ rfl,k 1 _ rfl,k 2 _ rfl,k 3 _ rfl⟩
theorem oZ {t:TypeId}(hf:∀ x,(f x).length=4)(h:OG t 4 f w base (qS a n cap) xs):QS f z w a n cap xs:=by
 obtain ⟨h1,h2,h3,h4⟩:=aQ h;refine ⟨h1,h2,fun hn=>?_,h3⟩;obtain ⟨g,rfl,hc⟩:=h4 hn;refine ⟨g,0,rfl,fun i hi j v hv=>?_⟩
 have hj:j<4:=by
  rcases Nat.lt_or_ge j 4 with h|h
  .exact h
  .rw [xO (by rw [hf];exact h)] at hv;cases hv
 rw [Nat.zero_add];exact hc _ _ (by rw [tO f 4 hf z xs i j (by omega) hj];exact hv)
end
theorem aEo:(prog.info? 142).map (fun i=>(i.zero,i.size,i.bytes))=some (some (.agg #[.bool false,qI 0,qI 0,qI 0]),4,32):=by kernel_rfl
theorem aEp:(prog.info? 135).map (fun i=>(i.zero,i.size,i.bytes))=some (some (.agg (qW 0 0 0 0)),4,32):=by kernel_rfl
theorem aBp (a:qO)(n cap:Nat)(l:Int)(w:qw)(h0:0<=l)(h1:l<=1048576)(hn:n<=maxLen):
 qC 27 #[qS a n cap,qI l] w fun e w'=>e=.returned (qI (szR l n))/\w=w':=by
 unfold maxLen at hn;unfold szR;by_cases h:l<n
 .go_enter func27,ntmps27
  go_wp2;go_ret;exact ⟨rfl,rfl⟩
 .go_enter func27,ntmps27
  go_wp2;go_ret;exact ⟨rfl,rfl⟩
theorem yW (a:qO)(n cap:Nat)(l:Int)(w:qw)(h0:0<=l)(h1:l<=1048576)(hn:n<=maxLen):
 qC 28 #[qS a n cap,qI l] w fun e w'=>e=.returned (qI (szR l n))/\w=w':=by
 unfold maxLen at hn;unfold szR;by_cases h:l<n
 .go_enter func28,ntmps28
  go_wp2;go_ret;exact ⟨rfl,rfl⟩
 .go_enter func28,ntmps28
  go_wp2;go_ret;exact ⟨rfl,rfl⟩
def gC (L:Lay)(P:PB)(b s:Int):Int:=if b=-1 then P.1.text else if s=-1 then P.1.banks.getD b.toNat 0 else L.slots.getD s.toNat 0
theorem mS (L:Lay)(a0:qO)(c0:Nat)(xs:List PB)(a2:qO)(c2:Nat)(a5:qO)(c5:Nat)(ts:List TB)(m b at' s:Int)(w:qw)(h:LyT w L a0 c0 xs a2 c2 a5 c5 ts)
 (hm0:0<=m) (hm1:m<(xs.length:Int)) (hb:b=-1\/(0<=b/\b<((xs.getD m.toNat zPB).1.banks.length:Int))) (hs:s=-1\/(b≠-1/\0<=s/\s<(L.slots.length:Int))):
 qC 130 #[.agg (qJ L a0 xs c0 a2 c2 a5 ts c5),.agg (qT m b at'),qI s] w (qB w (qI (gC L (xs.getD m.toNat zPB) b s))):=by
 obtain ⟨W,hW⟩:=eqx ((w.alloc (.cells (qJ L a0 xs c0 a2 c2 a5 ts c5) 71)).alloc (.cells (qT m b at') 58));have hB:qY w W:=by rw [hW];exact bal.alloc (by simp) _
 have HB:=zh hB;have h1:=h.bw hB;have k0:Blk W w.heap.size (qJ L a0 xs c0 a2 c2 a5 ts c5) 71:=by rw [hW];exact (Blk.new w _ _).alloc _
 have k1:Blk W (w.heap.size+1) (qT m b at') 58:=by rw [hW];have:=Blk.new (w.alloc (.cells (qJ L a0 xs c0 a2 c2 a5 ts c5) 71)) (qT m b at') 58;simpa using this
 have hz:W.heap.size=w.heap.size+1+1:=by rw [hW];simp
 have HZ:=zh hz;clear hz;have d0:=k0.e0;have d2:=k0.e2;have t0:=k1.e0;have t1:=k1.e1;obtain ⟨g,off,rfl,q0,q1,q2,q3⟩:=h1.p.at m.toNat (by omega);have hbk:=h1.p.2.2.2.1 m.toNat (by omega);have hsl:=h1.s;have hmx:=h1.p.2.1;have hmy:=hsl.2.1;have hmz:=hbk.2.1;unfold maxLen at hmx hmy hmz;unfold svP at q1;generalize xs.getD m.toNat zPB=P at *;have HW:=zh hW;clear hW hB k0 k1 h1 h;rcases hb with rfl|⟨hb0,hb1⟩
 .obtain rfl:s=-1:=by rcases hs with h|h;exact h;exact absurd rfl h.1
  have HO:Zh (gC L P (-1) (-1)=P.1.text):=rfl;rw [HO.o];clear hs hbk hsl;generalize P.1.text=x at *;generalize xs.length=n at *;generalize L.slots.length=l at *;go_enter func130,ntmps130
  go_wp2_with (rw [<- HW.o])
  go_ret;exact ⟨rfl,(by first|exact HB.o|exact HB.o.drew)⟩
 .have hb2:¬ b=-1:=by omega
  have hb3:(b == -1)=false:=by simpa using hb2
  rcases hs with rfl|⟨_,hs0,hs1⟩
  .have HO:=zh (show gC L P b (-1)=P.1.banks.getD b.toNat 0 by unfold gC;rw [if_neg hb2,if_pos rfl]);rw [HO.o];obtain ⟨u,v,e,hc⟩:=hbk.2.2.2.1 (by omega);have qq:=hc b.toNat (by omega);rw [e] at q1;clear hbk hsl e hc HO;generalize P.1.banks.getD b.toNat 0=x at *;generalize P.1.banks.length=y at *;generalize xs.length=n at *;generalize L.slots.length=l at *;go_enter func130,ntmps130
   go_wp2_with (rw [<- HW.o])
   go_region_held3 (fun w'=>w'.cell? (qR w.heap.size 0)=some (qS (some (qR g off)) n c0)/\w'.cell? (qR (w.heap.size+1) 0)=some (qI m)/\w'.cell? (qR (w.heap.size+1) 1)=some (qI b)/\w'.cell? (qR g (off+m.toNat*4+1))=some (qS (some (qR u v)) y P.2.2)/\w'.cell? (qR u (v+b.toNat))=some (qI x)) (go_keep) (fail)
   go_wp2;go_ret;exact ⟨rfl,(by first|exact HB.o|exact HB.o.drew)⟩
  .have hs2:¬ s=-1:=by omega
   have hs3:(s == -1)=false:=by simpa using hs2
   have HO:=zh (show gC L P b s=L.slots.getD s.toNat 0 by unfold gC;rw [if_neg hb2,if_neg hs2]);rw [HO.o];obtain ⟨u,v,e,hc⟩:=hsl.2.2.2.1 (by omega);have qq:=hc s.toNat (by omega);rw [e] at d2;clear hbk hsl e hc HO;generalize L.slots.getD s.toNat 0=x at *;generalize P.1.banks.length=y at *;generalize xs.length=n at *;generalize L.slots.length=l at *;go_enter func130,ntmps130
   go_wp2_with (rw [<- HW.o])
   go_ret;exact ⟨rfl,(by first|exact HB.o|exact HB.o.drew)⟩
theorem mZ (L:Lay)(a0:qO)(c0:Nat)(xs:List PB)(a2:qO)(c2:Nat)(a5:qO)(c5:Nat)(ts:List TB)(m b at' s:Int)(w:qw)(h:LyT w L a0 c0 xs a2 c2 a5 c5 ts)
 (hm0:0<=m) (hm1:m<(xs.length:Int)) (hb:b=-1\/(0<=b/\b<((xs.getD m.toNat zPB).1.banks.length:Int))) (hs:s=-1\/(b≠-1/\0<=s/\s<(L.slots.length:Int))):
 qC 119 #[.agg (qJ L a0 xs c0 a2 c2 a5 ts c5),.agg (qT m b at'),qI s] w (qB w (qI (gC L (xs.getD m.toNat zPB) b s))):=by
 obtain ⟨W,hW⟩:=eqx ((w.alloc (.cells (qJ L a0 xs c0 a2 c2 a5 ts c5) 71)).alloc (.cells (qT m b at') 58));have hB:qY w W:=by rw [hW];exact bal.alloc (by simp) _
 have HB:=zh hB;have h1:=h.bw hB;have k0:Blk W w.heap.size (qJ L a0 xs c0 a2 c2 a5 ts c5) 71:=by rw [hW];exact (Blk.new w _ _).alloc _
 have k1:Blk W (w.heap.size+1) (qT m b at') 58:=by rw [hW];have:=Blk.new (w.alloc (.cells (qJ L a0 xs c0 a2 c2 a5 ts c5) 71)) (qT m b at') 58;simpa using this
 have hz:W.heap.size=w.heap.size+1+1:=by rw [hW];simp
 have HZ:=zh hz;clear hz;have d0:=k0.e0;have d2:=k0.e2;have t0:=k1.e0;have t1:=k1.e1;obtain ⟨g,off,rfl,q0,q1,q2,q3⟩:=h1.p.at m.toNat (by omega);have hbk:=h1.p.2.2.2.1 m.toNat (by omega);have hsl:=h1.s;have hmx:=h1.p.2.1;have hmy:=hsl.2.1;have hmz:=hbk.2.1;unfold maxLen at hmx hmy hmz;unfold svP at q1;generalize xs.getD m.toNat zPB=P at *;have kA:=k0.alloc (.cells #[qI P.1.text,qS P.2.1 P.1.banks.length P.2.2,qI P.1.data,qI P.1.size] 171);have kB:=k1.alloc (.cells #[qI P.1.text,qS P.2.1 P.1.banks.length P.2.2,qI P.1.data,qI P.1.size] 171);have kC:=Blk.new W #[qI P.1.text,qS P.2.1 P.1.banks.length P.2.2,qI P.1.data,qI P.1.size] 171;have v2:=kA.e2;have v1:=kB.e1;have u0:=kC.e0;have u1:=kC.e1;have HBV:Zh (qY W (W.alloc (.cells #[qI P.1.text,qS P.2.1 P.1.banks.length P.2.2,qI P.1.data,qI P.1.size] 171))):=bal;have HBW:Zh (qY w (W.alloc (.cells #[qI P.1.text,qS P.2.1 P.1.banks.length P.2.2,qI P.1.data,qI P.1.size] 171))):=hB.alloc hB.size _;have HW:=zh hW;clear hW hB k0 k1 h1 h kA kB kC;rcases hb with rfl|⟨hb0,hb1⟩
 .obtain rfl:s=-1:=by rcases hs with h|h;exact h;exact absurd rfl h.1
  have HO:Zh (gC L P (-1) (-1)=P.1.text):=rfl;rw [HO.o];clear hs hbk hsl;generalize P.1.text=x at *;generalize xs.length=n at *;generalize L.slots.length=l at *;go_enter func119,ntmps119
  go_wp2_with (rw [<- HW.o])
  all_goals go_ret
  all_goals exact ⟨rfl,(by first|exact HBW.o|exact HBW.o.drew|exact HB.o|exact (HB.o.alloc HB.o.size _)|exact ((HB.o.alloc HB.o.size _).setCells (by omega) _))⟩
 .have hb2:¬ b=-1:=by omega
  have hb3:(b == -1)=false:=by simpa using hb2
  rcases hs with rfl|⟨_,hs0,hs1⟩
  .have HO:=zh (show gC L P b (-1)=P.1.banks.getD b.toNat 0 by unfold gC;rw [if_neg hb2,if_pos rfl]);rw [HO.o];obtain ⟨u,v,e,hc⟩:=hbk.2.2.2.1 (by omega);have qq:=hc b.toNat (by omega);have qv:=aB HBV.o qq;rw [e] at q1;rw [e] at u1 u0 v1 v2 qv HBW;clear HBV;clear hbk hsl e hc HO;generalize P.1.banks.getD b.toNat 0=x at *;generalize P.1.banks.length=y at *;generalize xs.length=n at *;generalize L.slots.length=l at *;go_enter func119,ntmps119
   go_wp2_with (rw [<- HW.o])
   all_goals go_ret
   all_goals exact ⟨rfl,(by first|exact HBW.o|exact HBW.o.drew|exact HB.o|exact (HB.o.alloc HB.o.size _)|exact ((HB.o.alloc HB.o.size _).setCells (by omega) _))⟩
  .have hs2:¬ s=-1:=by omega
   have hs3:(s == -1)=false:=by simpa using hs2
   have HO:=zh (show gC L P b s=L.slots.getD s.toNat 0 by unfold gC;rw [if_neg hb2,if_neg hs2]);rw [HO.o];obtain ⟨u,v,e,hc⟩:=hsl.2.2.2.1 (by omega);have qq:=hc s.toNat (by omega);have qv:=aB HBV.o qq;rw [e] at d2 v2;clear HBV;clear hbk hsl e hc HO;generalize L.slots.getD s.toNat 0=x at *;generalize P.1.banks.length=y at *;generalize xs.length=n at *;generalize L.slots.length=l at *;go_enter func119,ntmps119
   go_wp2_with (rw [<- HW.o])
   all_goals go_ret
   all_goals exact ⟨rfl,(by first|exact HBW.o|exact HBW.o.drew|exact HB.o|exact (HB.o.alloc HB.o.size _)|exact ((HB.o.alloc HB.o.size _).setCells (by omega) _))⟩
