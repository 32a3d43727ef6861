import Derived.Test.YtdjdcdnjjmjonaaGreatR21
import Derived.Test.YtdjdcdnjjmjonaaGreatR22
set_option linter.all false
set_option maxHeartbeats 16000000
namespace Go.Proofs.YtdjdcdnjjmjonaaGreat
open Go.RowKit
open Go.Proofs.Tryz
set_option maxRecDepth 100000
variable {G i k:Nat}{a:Act}{d:Option Tmp}{p:String}{v v0 v1 v2 v3 v4 v5 v6 v7:Value}
def z8m:Array Value:=#[.string ⟨#[]⟩,qS none 0 0,qS none 0 0,qS none 0 0,qI 0,qS none 0 0,qS none 0 0,qS none 0 0]
def aN9 (W:qw)(k:Nat)(v0 v1 v2 v3 v4 v5 v6 v7:Value):World:=(((((((W.setCell (qR k 0) v0).setCell (qR k 1) v1).setCell (qR k 2) v2).setCell (qR k 3) v3).setCell (qR k 4) v4).setCell (qR k 5) v5).setCell (qR k 6) v6).setCell (qR k 7) v7
def aB2 (W k v0 v1 v2 v3 v4 a b d):Turn (λj=>j=k) W (aN9 W k v0 v1 v2 v3 v4 a b d):=(((((((aD W k 0 v0).trans$ aD _ k 1 v1).trans$ aD _ k 2 v2).trans$ aD _ k 3 v3).trans$ aD _ k 4 v4).trans$ aD _ k 5 a).trans$ aD _ k 6 b).trans$ aD _ k 7 d
def aQ1 {W:qw}{t:TypeId}(h:Blk W k z8m t)(v0 v1 v2 v3 v4 a b d):Blk (aN9 W k v0 v1 v2 v3 v4 a b d) k #[v0,v1,v2,v3,v4,a,b,d] t:=by
 have k:=(((((((h.set 0 v0).set 1 v1).set 2 v2).set 3 v3).set 4 v4).set 5 a).set 6 b).set 7 d;have e:((((((((z8m.setIfInBounds 0 v0).setIfInBounds 1 v1).setIfInBounds 2 v2).setIfInBounds 3 v3).setIfInBounds 4 v4).setIfInBounds 5 a).setIfInBounds 6 b).setIfInBounds 7 d)=#[v0,v1,v2,v3,v4,a,b,d]:=by unfold z8m;simp
 rw[e]at k;exact k
def aVv {W:qw}{q:Nat}(e:Blk W q z8m 128)(v0 v1 v2 v3 v4 a d g)(Q:Ending->World->Prop)(tmps)(b:tmps[2]?=some (.pointer$ qP q))(f:Q (.returned$ .agg #[v0,v1,v2,v3,v4,a,d,g]) (aN9 W q v0 v1 v2 v3 v4 a d g)):
 bodyPost prog f84 Q Exit.ret ⟨tmps,[]⟩ (aN9 W q v0 v1 v2 v3 v4 a d g):=by
 let⟨i,j,k,l,p,s,t,u⟩:=Blk.eight'$ aQ1 e v0 v1 v2 v3 v4 a d g;refine bodyPost_ret_by (v:=.agg #[v0,v1,v2,v3,v4,a,d,g]) ?_ rfl f;simp[results,results84,go_sem,b,i,j,k,l,p,s,t,u]
def Cpb.nil {g X:qw}{gm:Nat}{l:qO}{e1:Nat}{b:qi}{q:Value}(h:Cpm g X gm #[q,qS l b.length e1,v2,v3,v4,v5,v6,v7])(f:OG 3 1 clI X g.heap.size (qS l b.length e1) b):Cpb g (X.setCell (qR gm 2)$ qS none 0 0) gm X.heap.size l e1 b none 0 [] q v3 v4 v5 v6 v7:=by
 let⟨c2,a⟩:=h.set 2$ qS none 0 0;refine⟨c2,f.kept a λk j e=>?_,⟨⟨rfl,.inl ⟨rfl,rfl⟩⟩,Jb,Jb⟩,λk j=>(f.lt k j).2,h.k.lt,Jb⟩;subst e;let⟨c,kb⟩:=aE f j;exact absurd (aH kb h.k) Ja
def CmP (w:qw)(P:PMod)(e:Ending)(w':qw):Prop:=∃x:Mb,e=.returned (.agg$ qM P.nm x.a1 P.tz.length x.c1 x.a2 x.bl.length x.c2 x.a3 P.dz.length x.c3 P.bss x.a5 P.rz.length x.c5 x.a6 P.ss.length x.c6 x.a7 P.es.length x.c7)/\MOb w' w.heap.size (P,x)/\qY w w'
def ModO.setG {W:qw}{base:Nat}{cs:Array Value}{x:PMod×Mb}(h:MOb W base x)(kb:Blk W G cs 128){f:qw}(t:Turn (λj=>j=G) W f):MOb f base x:=ModO.keptS h t (λl b k g e=>by
 subst e;let⟨c,a⟩:=aE l g
 exact b$ aH a kb)
def aAj (P b1 d1 b2 d2 a p d3 G d5 b6 d6 b7 d7 w)(H:Msr w (P,⟨b1,d1,b2,d2,a,p,d3,G,d5,b6,d6,b7,d7⟩))(R:PmG P):
 qC 84 #[.agg$ qM P.nm b1 P.tz.length d1 b2 a.length d2 p P.dz.length d3 P.bss G P.rz.length d5 b6 P.ss.length d6 b7 P.es.length d7] w (CmP w P):=by
 let⟨iB,c4,bz,c0,c1⟩:=info_parts aQd;let⟨w1,a1⟩:=aO$ ((w.alloc$ .cells (qM P.nm b1 P.tz.length d1 b2 a.length d2 p P.dz.length d3 P.bss G P.rz.length d5 b6 P.ss.length d6 b7 P.es.length d7) 128).alloc$ .cells #[.string ⟨#[]⟩,qS none 0 0,qS none 0 0,qS none 0 0,qI 0,qS none 0 0,qS none 0 0,qS none 0 0] 128).alloc$ .cells (qM P.nm b1 P.tz.length d1 b2 a.length d2 p P.dz.length d3 P.bss G P.rz.length d5 b6 P.ss.length d6 b7 P.es.length d7) 128;have B1:qY w w1:=by rw[a1];exact(bal.alloc Jb _).alloc Jc _
 have kb:Blk w1 w.heap.size (qM P.nm b1 P.tz.length d1 b2 a.length d2 p P.dz.length d3 P.bss G P.rz.length d5 b6 P.ss.length d6 b7 P.es.length d7) 128:=by rw[a1];exact((Blk.new _ _ _).alloc _).alloc _
 have S:Blk w1 (w.heap.size+1) z8m 128:=by rw[a1];have:=(Blk.new (w.alloc$ .cells (qM P.nm b1 P.tz.length d1 b2 a.length d2 p P.dz.length d3 P.bss G P.rz.length d5 b6 P.ss.length d6 b7 P.es.length d7) 128) z8m 128).alloc$ .cells (qM P.nm b1 P.tz.length d1 b2 a.length d2 p P.dz.length d3 P.bss G P.rz.length d5 b6 P.ss.length d6 b7 P.es.length d7) 128;simpa[z8m]using this
 have kg:Blk w1 (w.heap.size+1+1) (qM P.nm b1 P.tz.length d1 b2 a.length d2 p P.dz.length d3 P.bss G P.rz.length d5 b6 P.ss.length d6 b7 P.es.length d7) 128:=by rw[a1];have:=Blk.new ((w.alloc$ .cells (qM P.nm b1 P.tz.length d1 b2 a.length d2 p P.dz.length d3 P.bss G P.rz.length d5 b6 P.ss.length d6 b7 P.es.length d7) 128).alloc$ .cells #[.string ⟨#[]⟩,qS none 0 0,qS none 0 0,qS none 0 0,qI 0,qS none 0 0,qS none 0 0,qS none 0 0] 128) (qM P.nm b1 P.tz.length d1 b2 a.length d2 p P.dz.length d3 P.bss G P.rz.length d5 b6 P.ss.length d6 b7 P.es.length d7) 128;simpa using this
 have C1:Cpm w w1 (w.heap.size+1+1) (qM P.nm b1 P.tz.length d1 b2 a.length d2 p P.dz.length d3 P.bss G P.rz.length d5 b6 P.ss.length d6 b7 P.es.length d7):=⟨B1,kg,J⟩;have t:=zb w λX hX=>H.bw hX;have au:=zh a1;have I:=zh R;have HT:=zh$ pR b1 P.tz.length d1 P.tz w1 (t w1 B1).t R.t.1;have ca:a.length<=1048576:=by have h1:=R.b.1;rw[<-H.bls,xH]at h1;exact h1
 have x1:=kb.cell 1;have b3:=zh$ xA C1$ xA kb S;clear a1 B1 kb S kg C1 H R
 delta qC;go_in
 go_wp2_with (rw[<-au.o])
 apply HT.mono;rintro e w2 ⟨U,e1,rfl,O2,W⟩;clear x1 HT;let⟨C1,kb,S⟩:=b3.o;have C2:=C1.bw W;let⟨C3,t3⟩:=C2.set 1$ qS U P.tz.length e1;have O3:=aKt O2 C2.k Ja 1$ qS U P.tz.length e1;have C4:=Cpb.nil C3$ OG.mono O3 C1.b.size;have y1:=C2.k.cell 1;have bl:=C2.k.frozen 1;have y2:=C3.k.cell 2;have bn:=C3.k.frozen 2;let⟨X3,a8⟩:=aO$ (w2.setCell ⟨(w.heap.size+1+1),1,none⟩$ qS U P.tz.length e1).setCell ⟨(w.heap.size+1+1),2,none⟩$ qS none 0 0;rw[<-a8]at C4;have aj:Blk X3 w.heap.size (qM P.nm b1 P.tz.length d1 b2 a.length d2 p P.dz.length d3 P.bss G P.rz.length d5 b6 P.ss.length d6 b7 P.es.length d7) 128:=by rw[a8];exact((kb.bw W).other _ _ Jd).other _ _ Jd
 have b4:Blk X3 (w.heap.size+1) z8m 128:=by rw[a8];exact((S.bw W).other _ _ Jd).other _ _ Jd
 let⟨lo,b9⟩:=aO$ (w2.setCell ⟨(w.heap.size+1+1),1,none⟩$ qS U P.tz.length e1).heap.size;rw[<-b9]at C4;have x2:=aj.cell 2;have ar:=zh$ xA C4$ xA aj b4;have ak:=zh a8;clear C1 kb S C2 C3 t3 O2 O3 W C4 a8 aj b4 b9 b3 au;go_wp2_with (rw[<-ak.o])
 go_loopw [15] (λi wr=>∃(k:Nat) (a2:qO) (c2:Nat) (s:List Bk),k<=a.length/\i=qI k/\s.map (λB=>B.2.2.2)=(a.take k).map (λB=>B.2.2.2)/\Cpb w wr (w.heap.size+1+1) lo U e1 P.tz a2 c2 s (.string P.nm) (qS p P.dz.length d3) (qI P.bss) (qS G P.rz.length d5) (qS b6 P.ss.length d6) (qS b7 P.es.length d7)/\Blk wr w.heap.size (qM P.nm b1 P.tz.length d1 b2 a.length d2 p P.dz.length d3 P.bss G P.rz.length d5 b6 P.ss.length d6 b7 P.es.length d7) 128/\Blk wr (w.heap.size+1) z8m 128) (qf a.length)
 .exact⟨0,_,_,[],xC _,rfl,Jb,ar.o⟩
 .obtain⟨k,a2,c2,s,hk,rfl,K,C,kb,S⟩:=hrel;have ba:s.length=k:=by have:=congrArg List.length K;simp at this;omega
  have c8:s.length<=1048576:=J
  clear y1 bl y2 bn x2 ar ba ak;by_cases bq:k<a.length
  .have bb:(k:Int)<(a.length:Int):=J
   have cb:(0:Int)<=(k:Int):=J
   have ms:=t wr C.c.b;let⟨gb,A,Cc,zs,b8,hB,p3,oz⟩:=ms.b k bq;dsimp only at b8 hB p3 oz;subst b8;have bv:zs.length<=1048576:=(I.o.b.2 zs (by rw[<-ms.bls,List.mem_map];exact⟨_,List.mem_of_getElem? hB,rfl⟩)).1;have p1:=C.c.k.cell 2;simp only[Array.getElem?_eq_getElem,List.getElem?_toArray,List.getElem?_cons_succ,List.getElem?_cons_zero]at p1;have ay:=zb wr λX hX=>pR A zs.length Cc zs X (oz.bw hX) bv;have M:=zh$ xA C$ xA kb S;have V:=zh$ xA hB K;clear ms oz C hB K kb S;go_wp2_with fail
   go_region_law
    (first
      | (go_simp;go_at_call 150;first|refine(ay _ brf).mono ?_|refine(ay _ brf.drew).mono ?_
         rintro e w6 ⟨O,Q,rfl,O6,b⟩;replace b:qY wr w6:=(by first|exact b|exact aU b)
         have C6:=M.1.bw b;have be:qN w6 (w.heap.size+1+1) 2=qk a2 s.length c2:=C6.c.k.cell 2;have bp:(w6.alloc$ .cells #[qS O zs.length Q] 25).cell? (qR (w.heap.size+1+1) 2)=qk a2 s.length c2:=(C6.c.k.alloc _).cell 2;have E:=zh (C6.bw$ brf.alloc aQ$ .cells #[qS O zs.length Q] 25).b.head;have Z:=zh$ cA w6 _ 25 [qS O zs.length Q] rfl;have am:=zh λw4 d D l=>M.1.bank (w4:=w4) (d:=d) (O6.bw$ brf.alloc aQ$ .cells #[qS O zs.length Q] 25) (yT b$ brf.alloc aQ$ .cells #[qS O zs.length Q] 25) D l;have aw:=zh (λw4(l:World.grownBy _ w4 _)=>xA (bL l ((M.2.1.bw b).alloc$ .cells #[qS O zs.length Q] 25) (λe=>by obtain⟨c,kk⟩:=aE E e.symm;exact absurd (aH kk$ (M.2.1.bw b).alloc$ .cells #[qS O zs.length Q] 25) Ja)) (bL l ((M.2.2.bw b).alloc$ .cells #[qS O zs.length Q] 25) (λe=>by obtain⟨c,kk⟩:=aE E e.symm;exact absurd (aH kk$ (M.2.2.bw b).alloc$ .cells #[qS O zs.length Q] 25) Ja)));have Y:=zh (C6.bw$ brf.alloc aQ$ .cells #[qS O zs.length Q] 25).lh;clear O6 b C6)
      | (refine step_append_lies _ (by rfl) _ _ 99 (by rfl) lo 25 iB (qS none 0 0) 1 24 underlying99 c4 bz c0 c1 rfl Ja (qS a2 s.length c2) s.length (s.map λB=>qS B.1 B.2.1 B.2.2.1) (by rfl) E.o (qh w6 0) 1 1 [qS O zs.length Q] (by rfl) (by rfl) Z.o (by intro u hu;simp at hu;subst hu;rfl) Ja Jf J Y.o _ rfl ?_;intro g4 ce w4 D l bg c9;have N:=zh$ xA (am.o w4 _ D l)$ aw.o w4 l;have bc:qN w4 (w.heap.size+1+1) 2=qk a2 s.length c2:=N.o.1.1.k.cell 2;have f4:=N.o.1.1.k.frozen 2;clear D l bg))
   all_goals
    clear p1 be bp bc p3 f4 E Z am aw Y;go_wp2
    go_roundw
    .have⟨a',c',ed,CF⟩:=N.1.2;exact⟨k+1,a',c',_,J,by go_num,by rw[List.map_append,V.o.2,nP V.o.1];rfl,CF,N.o.2.1.other _ _ Jd,N.o.2.2.other _ _ Jd⟩
    .simp[qf,intOf];omega
  .have bb:¬(k:Int)<(a.length:Int):=J
   obtain rfl:k=a.length:=J
   rw[List.take_length]at K;have x3:=kb.cell 3;have b5:=zh$ aJ8 p P.dz.length d3 P.dz wr (t wr C.c.b).d I.d.1;have M:=zh$ xA C$ xA kb S;have V:=zh (show s.map (λB=>B.2.2.2)=P.bl by rw[K];exact(t.o wr C.c.b).bls);clear C K kb S;go_wp2_with fail
   apply b5.mono;rintro e w7 ⟨a3,c3,rfl,o7,k7⟩;let⟨C7,D7,P7,T7,_⟩:=M.1.row (v3':=qS a3 P.dz.length c3) o7 k7 Ja 3 rfl;have y3:=C7.c.k.cell 3;have bo:=C7.c.k.frozen 3;let⟨X7,a9⟩:=aO$ w7.setCell ⟨(w.heap.size+1+1),3,none⟩$ qS a3 P.dz.length c3;rw[<-a9]at D7 P7 T7;have ag:Blk X7 w.heap.size (qM P.nm b1 P.tz.length d1 b2 a.length d2 p P.dz.length d3 P.bss G P.rz.length d5 b6 P.ss.length d6 b7 P.es.length d7) 128:=by rw[a9];exact(M.o.2.1.bw k7).other _ _ Jd
   have az:Blk X7 (w.heap.size+1) z8m 128:=by rw[a9];exact(M.o.2.2.bw k7).other _ _ Jd
   have x5:=ag.cell 5;have av:=zh$ pR G P.rz.length d5 P.rz X7 (t X7 D7.c.b).r I.r.1;have y:=zh$ xA D7$ xA P7$ xA ag$ xA az$ xM M.1.c.b.size$ Nat.le_refl wr.heap.size;have br:=zh a9;clear x3 C7 D7 P7 T7 a9 o7 k7 ag az b5;go_wp2_with (rw[<-br.o])
   apply av.mono;rintro e w8 ⟨a5,c5,rfl,o8,k8⟩;let⟨C8,D8,P8,T8,_⟩:=y.1.row (v5':=qS a5 P.rz.length c5) o8 k8 Ja 5 rfl;have bu:=zh$ y.1.apart o8;have y5:=C8.c.k.cell 5;have bd:=C8.c.k.frozen 5;let⟨X8,aa⟩:=aO$ w8.setCell ⟨(w.heap.size+1+1),5,none⟩$ qS a5 P.rz.length c5;rw[<-aa]at D8 P8 T8;have ah:Blk X8 w.heap.size (qM P.nm b1 P.tz.length d1 b2 a.length d2 p P.dz.length d3 P.bss G P.rz.length d5 b6 P.ss.length d6 b7 P.es.length d7) 128:=by rw[aa];exact(y.o.2.2.1.bw k8).other _ _ Jd
   have an:Blk X8 (w.heap.size+1) z8m 128:=by rw[aa];exact(y.o.2.2.2.1.bw k8).other _ _ Jd
   have x6:=ah.cell 6;have aq:=zh$ aJ5 b6 P.ss.length d6 P.ss X8 (t X8 D8.c.b).i I.i.1;have g:=zh$ xA D8$ xA P8$ xA (cV T8 y.1.c.k y.2.1 Ja)$ xA ah an;have bh:=zh aa;clear x5 y3 bo C8 D8 P8 T8 aa o8 k8 ah an av;go_wp2_with (rw[<-bh.o])
   apply aq.mono;rintro e w9 ⟨a6,c6,rfl,o9,k9⟩;let⟨C9,D9,P9,T9,_⟩:=g.1.row (v6':=qS a6 P.ss.length c6) o9 k9 Ja 6 rfl;have y6:=C9.c.k.cell 6;have bi:=C9.c.k.frozen 6;let⟨X9,ab⟩:=aO$ w9.setCell ⟨(w.heap.size+1+1),6,none⟩$ qS a6 P.ss.length c6;rw[<-ab]at D9 P9 T9;have ai:Blk X9 w.heap.size (qM P.nm b1 P.tz.length d1 b2 a.length d2 p P.dz.length d3 P.bss G P.rz.length d5 b6 P.ss.length d6 b7 P.es.length d7) 128:=by rw[ab];exact(g.o.2.2.2.1.bw k9).other _ _ Jd
   have ao:Blk X9 (w.heap.size+1) z8m 128:=by rw[ab];exact(g.o.2.2.2.2.bw k9).other _ _ Jd
   have x7:=ai.cell 7;have ap:=zh$ aJ4 b7 P.es.length d7 P.es X9 (t X9 D9.c.b).e I.e.1;have f:=zh$ xA D9$ xA P9$ xA (cV T9 g.1.c.k g.2.1 Ja)$ xA (cV T9 g.1.c.k g.2.2.1 Ja)$ xA ai ao;have bf:=zh ab;clear x6 y5 bd C9 D9 P9 T9 ab o9 k9 ai ao aq;go_wp2_with (rw[<-bf.o])
   apply ap.mono;rintro e bj ⟨a7,c7,rfl,ax,af⟩;let⟨ad,a0,ae,a4,_⟩:=f.1.row (v7':=qS a7 P.es.length c7) ax af Ja 7 rfl;have y7:=ad.c.k.cell 7;have cc:=ad.c.k.frozen 7;let⟨XX,ac⟩:=aO$ bj.setCell ⟨(w.heap.size+1+1),7,none⟩$ qS a7 P.es.length c7;rw[<-ac]at a0 ae a4;have q:Blk XX (w.heap.size+1) z8m 128:=by rw[ac];exact(f.o.2.2.2.2.2.bw af).other _ _ Jd
   have b0:=zh$ a0.done (P:=P) V I.d.2 (cV a4 f.1.c.k f.2.2.2.1 Ja) M.1.c.b.size (cV a4 f.1.c.k f.2.2.1 Ja) y.1.c.b.size (cV a4 f.1.c.k f.2.1 Ja) g.1.c.b.size ae f.1.c.b.size bu;let⟨x0,x1,x2,x3,x4,x5,x6,x8⟩:=Blk.eight' a0.c.k;have KZ:=q;unfold z8m at KZ;have r0:=Blk.eight' KZ;have rf:=q.frozen;have HF:Zh (CmP w P (.returned$ .agg$ qM P.nm U P.tz.length e1 a2 s.length c2 a3 P.dz.length c3 P.bss a5 P.rz.length c5 a6 P.ss.length c6 a7 P.es.length c7)$ aN9 XX (w.heap.size+1) (.string P.nm) (qS U P.tz.length e1) (qS a2 s.length c2) (qS a3 P.dz.length c3) (qI P.bss) (qS a5 P.rz.length c5) (qS a6 P.ss.length c6)$ qS a7 P.es.length c7):=⟨⟨U,e1,a2,c2,s,a3,c3,a5,c5,a6,c6,a7,c7⟩,rfl,ModO.setG (x:=(P,(⟨U,e1,a2,c2,s,a3,c3,a5,c5,a6,c6,a7,c7⟩:Mb))) b0 q$ aB2 _ _ _ _ _ _ _ _ _ _,aF a0.c.b (aB2 _ _ _ _ _ _ _ _ _ _) (λj hj=>J) a0.c.b.size⟩;have bm:=zh q;have bk:=zh ac;clear x7 y6 bi ad a0 ae a4 ac ax af q KZ ap b0;go_wp2_with (rw[<-bk.o])
   exact aVv bm _ _ _ _ _ _ _ _ _ _ rfl HF
section
variable {W W':World}{base aN n' c':Nat}{C:Cn}{M:Mn}{Ls:List (PMod×Mb)}{β:Nat->Nat}{a':qO}{x:FrT}
def MxO.push (h:MxO W base aN C M Ls β)(g:W.grownBy W' (qS M.ha M.hn M.hc).ownBlock)(q:OG 136 4 bS W' aN (qS a' n' c') (C.hz++[x])):MxO W' base aN { C with hz:=C.hz++[x] } { M with ha:=a',hn:=n',hc:=c',hz:=C.hz++[x] } Ls β:=by
 have T:Turn (λj=>(qS M.ha M.hn M.hc).ownBlock=some j) W W':=⟨g.os,g.tape,g.output,g.size,λk l hs=>g.block k l λe=>hs e.symm⟩
 have f:∀{t:TypeId}{sz n b:Nat}{v:Value}{y:List Value},W.ownsRow b t sz v n y->t≠136->∀k,v.ownBlock=some k->¬(qS M.ha M.hn M.hc).ownBlock=some k:=λu p k l s=>by
  let⟨_,d⟩:=aE h.h s;let⟨_,i⟩:=aE u l;exact p$ aH i d
 exact⟨h.upd T (λj s=>by
  let⟨a,kb⟩:=aE h.h s
  exact⟨(h.h.lt j s).1,a,_,kb,Ja,Ja⟩),h.e,aV T h.k$ f h.k.1 Ja,dV h.q T (λj w=>by
  rcases w with q|q|q
  .exact f h.q.1.1 Ja j q
  .exact f h.q.2.1.1 Ja j q
  .exact f h.q.2.2.1.1 Ja j q),h.l.kept T$ f h.l Ja,q,h.bm,h.bh,h.vs,⟨h.vz.1,h.vz.2.1,h.vz.2.2.1,h.vz.2.2.2.1,h.vz.2.2.2.2.1,h.vz.2.2.2.2.2.1,rfl⟩⟩
end
theorem aK3 {W:World}{aN n:Nat}{hz:List FrT}{x:FrT}(b:hz.length=n)(h:W.ownsRow aN 136 4 v (n+1) (hz.flatMap bS++bS x)):OG 136 4 bS W aN v (hz++[x]):=by
 unfold OG
 grind
def PuP (w1 w:World)(G:Nat)(Y:Lyb)(C:Cn)(M:Mn)(v13 vr:Value)(x:FrT)(e:Ending)(w':World):Prop:=
 if (C.hz.length:Int)<C.cd then e=.returned (.bool true)/\(∃M',Mg w1 w' G Y { C with hz:=C.hz++[x] } M' v13 vr)/\Kb w w' else e=.returned (.bool false)/\qY w w'
def aO2 (w1 G Y C M a0 vr w)(h:Mg w1 w G Y C M a0 vr)(a x1 x2 x3)(hc:C.cd<=100):Calls prog 280 #[.pointer$ some ⟨G,21,none⟩,.agg$ qW a x1 x2 x3] w (PuP w1 w G Y C M a0 vr (a,x1,x2,x3)):=by
 let⟨a1,aN,Ls,β,p,g1,g2⟩:=h.m;have I:M.hn=C.hz.length:=eP p.h;have ed:M.cd=C.cd:=h.vs.1.2.2.2.1;let⟨U,x,i,kU⟩:=nwb w (qW a x1 x2 x3) 136;have P:U.cell? ⟨G,21,none⟩=qj M.cd:=(h.k.bw i).cell 21;have K:U.cell? ⟨G,22,none⟩=qk M.ha M.hn M.hc:=(h.k.bw i).cell 22;have HU:=zh x;have HB:=zh i;by_cases H:(C.hz.length:Int)<C.cd
 .refine Calls.mono (R:=λe w'=>e=.returned (.bool true)/\(∃M',Mg w1 w' G Y { C with hz:=C.hz++[(a,x1,x2,x3)] } M' a0 vr)/\Kb w w') ?_ (λe w' S=>by unfold PuP;rw[if_pos H];exact S);have O:¬M.cd<=(M.hn:Int):=J
  let⟨V,W⟩:=aO U.drew;have N:qY U V:=by rw[W];exact brf.drew
  have q:=yT i N;have Z:V.heap.size=w.heap.size+1:=by rw[W,x];simp
  have hG:=h.k.lt;have kV:=kU.bw N;have b0:=kV.z4;have a7:V.cell? ⟨G,22,none⟩=qk M.ha M.hn M.hc:=(h.k.bw q).cell 22;have a6:(V.alloc$ .cells (qW a x1 x2 x3) 136).cell? ⟨G,22,none⟩=qk M.ha M.hn M.hc:=((h.k.bw q).alloc _).cell 22
  have t:=zh (λ(X:World)(s:qY V X)=>show(X.alloc$ .cells (qW a x1 x2 x3) 136).ownsRow aN 136 4 (qS M.ha M.hn M.hc) M.hn (C.hz.flatMap bS)by
   have:=(p.h.bw$ yT q s).bw (w':=X.alloc$ .cells (qW a x1 x2 x3) 136) bal;unfold OG at this;rw[<-I]at this
   exact this)
  have A:=zh λ(X:World)=>cA X (qW a x1 x2 x3) 136 (bS (a,x1,x2,x3)) rfl
  have y:=zh (λ(X:World)(s:qY V X)=>show aN<=(X.alloc$ .cells (qW a x1 x2 x3) 136).heap.size by
   have:=s.size;simp
   omega)
  have E:=zh (λ(X:World)(s:qY V X)(g c:Nat)(d:World)(f:d.ownsRow aN 136 4 (qS (qP g) (M.hn+1) c) (M.hn+1) (C.hz.flatMap bS++bS (a,x1,x2,x3)))(b:(X.alloc$ .cells (qW a x1 x2 x3) 136).grownBy d (qS M.ha M.hn M.hc).ownBlock)=>show(d.cell? ⟨G,22,none⟩=qk M.ha M.hn M.hc/\d.frozen? ⟨G,22,none⟩=false)/\Mg w1 (d.setCell ⟨G,22,none⟩$ qS (qP g) (M.hn+1) c) G Y { C with hz:=C.hz++[(a,x1,x2,x3)] } { M with ha:=qP g,hn:=M.hn+1,hc:=c,hz:=C.hz++[(a,x1,x2,x3)] } a0 vr/\Kb w (d.setCell ⟨G,22,none⟩$ qS (qP g) (M.hn+1) c)by
   have B:=(yT q s).trans$ (bal (w:=X) (o:=.cells (qW a x1 x2 x3) 136)).mono (yT q s).size;have Q:=h.bw B;have mA:=p.bw B
   have D:=dZ Q.k b (λe=>by
    let⟨_,k1⟩:=aE mA.h e.symm
    exact absurd (aH k1 Q.k) Ja)
   have b4:=aAr Q.b b λk hk=>jL ((mA.h.lt k hk).1) mA.bm;refine⟨⟨D.cell 22,D.frozen 22⟩,⟨aF b4 (aD d G 22 _) (λj hj=>jK h.g) b4.size,h.g,D.set 22$ qS (qP g) (M.hn+1) c,⟨a1,aN,Ls,β,(mA.push b$ aK3 I.symm f).gm D g2$ aD d G 22 _,g1,g2⟩,h.l⟩,λj cs ty hn kj=>?_⟩
   have k5:=dZ (kj.bw B) b (λe=>by
    let⟨_,k1⟩:=aE mA.h e.symm
    exact hn$ .inr (aH k1$ kj.bw B).symm)
   exact k5.other ⟨G,22,none⟩ _ (λe=>by
    have e':j=G:=e;rw[e']at k5
    exact hn$ .inl$ .inr$ .inl$ aH k5 D))
  let⟨iF,a2,a3,a4,a5⟩:=info_parts zG;have HV:=zh W;have hN:M.hn<=100:=J
  clear x i kU W N q kV h p I ed Z H
  go_in
  go_wp2_with (rw[<-HU.o])
  go_region_held3 (λw'=>w'.cell? ⟨G,22,none⟩=qk M.ha M.hn M.hc/\w'.cell? ⟨G,21,none⟩=qj M.cd) (go_keep) (fail)
  rw[<-HV.o];clear P K;go_wp2_with fail
  go_region_law (first
   | (refine step_append_lies _ (by rfl) _ _ 41 (by rfl) aN 136 iF _ 4 _ underlying41 a2 a3 a4 a5 rfl Ja (qS M.ha M.hn M.hc) M.hn (C.hz.flatMap bS) (by rfl) (by first|exact t.o _ brf|exact t.o _ brf.drew) ⟨V.heap.size,0,none⟩ 1 1 (bS (a,x1,x2,x3)) (by rfl) (by rfl) (by first|exact A.o V|exact A.o V.drew) (by intro u hu;simp[bS]at hu;rcases hu with rfl|rfl|rfl|rfl<;>rfl) Ja Jf J (by first|exact y.o _ brf|exact y.o _ brf.drew) _ rfl ?_;intro g4 c4 d f b _ _;have l:=zh (by first|exact E.o _ brf _ _ _ f b|exact E.o _ brf.drew _ _ _ f b);obtain⟨p4,f4⟩:=l.o.1;clear f b))
  all_goals
   go_wp2;go_ret;exact⟨rfl,⟨_,l.2.1⟩,l.2.2⟩
 .refine Calls.mono (R:=λe w'=>e=.returned (.bool false)/\qY w w') ?_ (λe w' S=>by unfold PuP;rw[if_neg H];exact S);have O:M.cd<=(M.hn:Int):=J
  clear x i kU h p I ed H
  go_in
  go_wp2_with (rw[<-HU.o])
  go_region_held3 (λw'=>w'.cell? ⟨G,22,none⟩=qk M.ha M.hn M.hc/\w'.cell? ⟨G,21,none⟩=qj M.cd) (go_keep) (fail)
  go_wp2;go_ret;exact⟨rfl,HB.drew⟩
def yS {W:qw}{u:TypeId}{t:Array _}{s:Option _}{q l b f j g e:Value}(kb:Blk W G #[v0,v1,v2,v3,v4,v5,v6,v7,q,l,b,f,j,g,e] 43)(h:a.tmps[k]?.getD undef=.pointer (qP G)):(execOp a.eval { dst:=d,op:=Op.load 43$ Operand.tmp k,type:=u,pos:=p,after:=t,guard:=s }).run prog W=.ok (.value$ .agg #[v0,v1,v2,v3,v4,v5,v6,v7,q,l,b,f,j,g,e]) W:=by
 have:=kb.mc;go_simp
def aP1 {W:qw}{f:TypeId}{e:Array _}{b:Option _}(kb:Blk W G #[v0,v1,v2,v3,v4,v5] 65)(h:a.tmps[k]?.getD undef=.pointer (qP G)):(execOp a.eval { dst:=d,op:=Op.load 65$ Operand.tmp k,type:=f,pos:=p,after:=e,guard:=b }).run prog W=.ok (.value$ .agg #[v0,v1,v2,v3,v4,v5]) W:=by
 have:=kb.ly6;go_simp
def aUd {W:qw}{l:TypeId}{f:Array _}{b:Option _}(kb:Blk W G #[v0,v1,v2,v3] 132)(h:a.tmps[k]?.getD undef=.pointer (qP G)):(execOp a.eval { dst:=d,op:=Op.load 132$ Operand.tmp k,type:=l,pos:=p,after:=f,guard:=b }).run prog W=.ok (.value$ .agg #[v0,v1,v2,v3]) W:=by
 have q:=kb.cell 0;have e:=kb.cell 1;have g:=kb.cell 2;have j:=kb.cell 3;simp at q e g j;go_simp
def aUc {W:qw}{f:TypeId}{e:Array _}{b:Option _}(q:W.cell? ⟨G,i,none⟩=some v)(h:a.tmps[k]?.getD undef=.pointer (some ⟨G,i,none⟩)):(execOp a.eval { dst:=d,op:=Op.load 40$ Operand.tmp k,type:=f,pos:=p,after:=e,guard:=b }).run prog W=.ok (.value v) W:=by
 go_simp
def aW7 {W:qw}{f:TypeId}{e:Array _}{b:Option _}(q:W.cell? ⟨G,i,none⟩=some v)(h:a.tmps[k]?.getD undef=.pointer (some ⟨G,i,none⟩)):(execOp a.eval { dst:=d,op:=Op.load 4$ Operand.tmp k,type:=f,pos:=p,after:=e,guard:=b }).run prog W=.ok (.value v) W:=by
 go_simp
