import Derived.ChangeMaps5
import Derived.Test.YtdjdcdnjjmjonaaGreatR33
import Derived.Test.YtdjdcdnjjmjonaaGreatR34
set_option linter.all false
set_option maxHeartbeats 16000000
namespace Go.Proofs.YtdjdcdnjjmjonaaGreat
open Go.RowKit
set_option maxRecDepth 100000
variable {S S':Nat->Prop}{n:Nat}
def uD (w1 base aN Ls)(β:Nat->Nat)(Y C M m b t w)(h:MxO w base aN C M Ls β)(hb:qY w1 w)(hw:w1.heap.size<=base)(hl:Y.T w1)(Q:Cv C Y.L)(ht:C.tn<1000000000)(hp:tgk C.ps m b t):
 qC 175 #[.agg$ qA M,.agg$ qL Y.L Y.a0 Y.xs.length Y.c0 Y.a2 Y.L.slots.length Y.c2 Y.a5 Y.ts.length Y.c5,.agg$ qT m b t] w (LeP w1 w base aN Ls β Y C m b t):=by
 obtain⟨U,hU⟩:=aO$ (((w.alloc$ .cells (qA M) 43).alloc$ .cells (qL Y.L Y.a0 Y.xs.length Y.c0 Y.a2 Y.L.slots.length Y.c2 Y.a5 Y.ts.length Y.c5) 65).alloc$ .cells (qT m b t) 121).alloc$ .cells qZ 43;have bU:qY w U:=by rw[hU];exact((bal.alloc Jb _).alloc Jc _).alloc Jc _
 have D:Se w1 w U Y m b t C M base aN Ls β:=by
  refine⟨bN bU,hb.trans$ bU.mono hb.size,hb.size,?_,?_,?_,?_,h.bw bU⟩
  .rw[hU];exact(((Blk.new _ _ _).alloc _).alloc _).alloc _
  .rw[hU];have:=((Blk.new (w.alloc$ .cells (qA M) 43) (qL Y.L Y.a0 Y.xs.length Y.c0 Y.a2 Y.L.slots.length Y.c2 Y.a5 Y.ts.length Y.c5) 65).alloc$ .cells (qT m b t) 121).alloc$ .cells qZ 43;simpa using this
  .rw[hU];have:=(Blk.new ((w.alloc$ .cells (qA M) 43).alloc$ .cells (qL Y.L Y.a0 Y.xs.length Y.c0 Y.a2 Y.L.slots.length Y.c2 Y.a5 Y.ts.length Y.c5) 65) (qT m b t) 121).alloc$ .cells qZ 43;simpa using this
  .rw[hU];have:=Blk.new (((w.alloc$ .cells (qA M) 43).alloc$ .cells (qL Y.L Y.a0 Y.xs.length Y.c0 Y.a2 Y.L.slots.length Y.c2 Y.a5 Y.ts.length Y.c5) 65).alloc$ .cells (qT m b t) 121) z15 43;simpa[z15]using this
 obtain⟨_,ak,bl,bm,ac⟩:=Q.cf;obtain⟨hp,t0,t1⟩:=hp;have N:=mR (s:=0) hl ac hp;have cb:=Q.g;have b2:=eP h.l;have I:U.cell? (qR w.heap.size 12)=some (qS M.la M.ln M.lc):=D.k0.cell 12;obtain⟨y0,y1,y2⟩:=show U.cell? ⟨(w.heap.size+1+1),0,none⟩=some (qI m)/\U.cell? ⟨(w.heap.size+1+1),1,none⟩=some (qI b)/\U.cell? ⟨(w.heap.size+1+1),2,none⟩=some (qI t)from⟨D.k2.cell 0,D.k2.cell 1,D.k2.cell 2⟩;have HU:=zh hU;clear hU bU;by_cases K:C.lz.length≠0/\b≠-1
 focus
  have bb:0<=b:=jL N.bb K.2;have a7:=mO (xs:=C.lz) m b K.1;obtain⟨s1,s2,s3,s4,s5,s6⟩:=Q.slot a7;obtain⟨z1,z2,z3⟩:=gS Q.cf.1.1 Q.cf.1.2;have bu:slz C.cw≠0:=jK Q.cf.1.1;have b9:QS cO zSl U M.la M.ln M.lc C.lz:=uC cH D.m.l
  obtain⟨d,ad⟩:∃d,M.la=some ⟨d,0,none⟩:=by
   obtain⟨g',cp,e,_⟩:=World.ownsRow.form h.l$ jK K.1;simp only[Value.slice.injEq]at e;exact⟨g',e.1⟩
  have ce:=bC h.q.2.1;obtain⟨gr,a3⟩:∃gr,M.ra=some ⟨gr,0,none⟩:=aGp h.q.2.1;have e8:=h.vs.2.2.2.2.2.2.2;have e2:=h.vs.2.1;obtain⟨gs,os,ap,_⟩:=hl.s.2.2.2.1 J;have cg:=hl.s.2.1;unfold maxLen at cg;obtain⟨s,hs⟩:=aO$ slq C.lz m b;rw[<-hs]at a7 s1 s2 s3 s4 s6;obtain⟨A,hA⟩:=aO$ Y.L.slots.getD s 0;rw[<-hA]at s1 s2 s3 s6;obtain⟨f,hf⟩:=aO$ (A-65536).toNat;rw[<-hf]at s2;obtain⟨y,a0⟩:∃y:Cn,y={ C with tn:=C.tn+1,lz:=C.lz.set s (true,m,b,C.tn+1),rz:=ovr C.rz f (bkb C.ps C.cw m b) }:=⟨_,rfl⟩;obtain⟨p,a2⟩:∃p:Mn,p={ M with tn:=C.tn+1,lz:=C.lz.set s (true,m,b,C.tn+1),rz:=ovr C.rz f (bkb C.ps C.cw m b) }:=⟨_,rfl⟩;obtain⟨S,hS⟩:∃S:Int,S=((s:Nat):Int):=⟨_,rfl⟩;have G:Zh (S=-1\/(b≠-1/\0<=S/\S<(Y.L.slots.length:Int))):=.inr ⟨K.2,J,J⟩
  have aj:=zh (show 0<=eE Y.L (plc C.ps m.toNat) b S/\eE Y.L (plc C.ps m.toNat) b S<=100000 by
   unfold eE;rw[if_neg K.2,if_neg J,hS,xY,<-hA]
   omega)
  have af:=zh (show { y with md:=m,bk:=b,pc:=eE Y.L (plc C.ps m.toNat) b S+4*t,kz:=y.kz.set 7 (plc C.ps m.toNat).data }=dG C Y.L m b t by rw[a0,hS,hf,hA,hs];unfold dG;rw[if_pos K]);have ao:=zh$ aI9 M.la M.ln M.lc C.lz m b t U b9$ aRm Q.s;rw[<-hs]at ao
  have b7:=zh (λ(X:qw)(l:qY w1 X)=>show X.cell? (qR gs$ os+s)=some (qI A)by
   obtain⟨dv,eb,bh,cj⟩:=(hl.bw l).s.2.2.2.1 J;rw[ap]at bh;cases bh
   rw[hA]
   exact cj s J)
  have ai:=zh (λ(X:qw)(C':Cn)(M':Mn)(l:Se w1 w X Y m b t C' M' base aN Ls β)(e:M'.la=some (qR d 0))(e':s<M'.ln)=>show(∀j,j<4->∀u,(cO$ C'.lz.getD s zSl)[j]?=some u->X.cell? (qR d$ s*4+j)=some u)/\(∀i,X.frozen? (qR d i)=false)/\¬d=w.heap.size/\¬d=(w.heap.size+1)/\¬d=(w.heap.size+1+1)/\w1.heap.size<=d by
   have ml:=l.m.l;rw[e]at ml;obtain⟨cs,kb⟩:=aE ml (k:=d) rfl;obtain⟨gg,q,hq⟩:=sN cH zSl ml s e';have lo:=(ml.lt d rfl).1;have ch:=l.m.bm;cases q
   refine⟨hq,kb.frozen,λe=>?_,λe=>?_,λe=>?_,J⟩
   .rw[e]at kb;exact absurd (aH kb l.k0) Ja
   .rw[e]at kb;exact absurd (aH kb l.k1) Ja
   .rw[e]at kb;exact absurd (aH kb l.k2) Ja)
  have ag:=zh (λ(X:qw)(l:Se w1 w X Y m b t { C with tn:=C.tn+1,lz:=C.lz.set s (true,m,b,C.tn+1) } { M with tn:=C.tn+1,lz:=C.lz.set s (true,m,b,C.tn+1) } base aN Ls β)=>show qC 120 #[.agg #[qS M.ma M.mn M.mc,qI M.cs,qI M.cw,qI M.ck,qI M.cd,qI M.pc,qS M.ka M.kn M.kc,qS M.fa M.fn M.fc,qS (some$ qR gr 0) M.rn M.rc,qS M.oa M.on M.oc,qI M.md,qI M.bk,qS (some$ qR d 0) M.ln M.lc,qS M.ha M.hn M.hc,qI$ C.tn+1],.agg #[.bool true,qI m,qI b,qI$ C.tn+1]] X (λe w'=>∃g,e=.returned (qS (some$ qR g 0) (slz C.cw)$ slz C.cw)/\Se w1 w w' Y m b t { C with tn:=C.tn+1,lz:=C.lz.set s (true,m,b,C.tn+1) } { M with tn:=C.tn+1,lz:=C.lz.set s (true,m,b,C.tn+1) } base aN Ls β/\∃w4,(Builtin.copy_ #[28,28] 3 #[qS (some$ qR gr f) (M.rn-f)$ M.rc-f,qS (some$ qR g 0) (slz C.cw)$ slz C.cw]).run Tryz.prog w'=.ok (goInt$ slz C.cw) w4/\Se w1 w w4 Y m b t y p base aN Ls β)by
   have ah:aI M.ms=C.ps:=by rw[h.vz.1,h.m.pms,h.e]
   have ca:M.mn<=1048576:=by
    have h1:=h.len;have h2:=congrArg List.length h.e;rw[xH]at h2;omega
   have q:=mH { M with tn:=C.tn+1,lz:=C.lz.set s (true,m,b,C.tn+1) } true m b (C.tn+1) X (l.m.mnd ca) (by show lkc (aI M.ms) M.cs M.cw M.ck M.cd=0;rw[ah,h.vs.1,e2,h.vs.2.2.1,h.vs.2.2.2.1];exact Q.k) (by show 0<M.cs;rw[h.vs.1];exact s5) (by show 0<=pcq (aI M.ms) m b;rw[ah];exact hp) bb;dsimp only at q;rw[a3,ad]at q;apply q.mono;rintro e w' ⟨g,rfl,ho,ae⟩;rw[ah,e2]at ho;have an:=l.bw ae;have c6:OB w' aN (qS (some$ qR gr 0) M.rn M.rc) C.rz:=by rw[<-a3];exact an.m.q.2.1
   obtain⟨w4,V,o4,T4⟩:=aNl (f:=f) c6 3 (some ⟨g,0,none⟩) (M.rn-f) (M.rc-f) (slz C.cw) (slz C.cw) ho.bs J J bu;refine⟨g,by rw[e2],an,w4,V,?_⟩;rw[a0,a2]
   exact an.mem hw a3 T4 (by show OB w4 aN (qS M.ra M.rn M.rc) _;rw[a3];exact o4))
  have a6:=zh (λ(X:qw)(M':Mn)(C':Cn)(l:Se w1 w X Y m b t C' M' base aN Ls β)(e:((qA M'):Array Value)=#[qS M.ma M.mn M.mc,qI M.cs,qI M.cw,qI M.ck,qI M.cd,qI M.pc,qS M.ka M.kn M.kc,qS M.fa M.fn M.fc,qS (some$ qR gr 0) M.rn M.rc,qS M.oa M.on M.oc,qI M.md,qI M.bk,qS (some$ qR d 0) M.ln M.lc,qS M.ha M.hn M.hc,qI$ C.tn+1])(ez:C'.lz=C.lz.set s (true,m,b,C.tn+1))=>show(X.cell? (qR w.heap.size 0)=some (qS M.ma M.mn M.mc)/\X.cell? (qR w.heap.size 1)=some (qI M.cs)/\X.cell? (qR w.heap.size 2)=some (qI M.cw)/\X.cell? (qR w.heap.size 3)=some (qI M.ck)/\X.cell? (qR w.heap.size 4)=some (qI M.cd)/\X.cell? (qR w.heap.size 5)=some (qI M.pc)/\X.cell? (qR w.heap.size 6)=some (qS M.ka M.kn M.kc)/\X.cell? (qR w.heap.size 7)=some (qS M.fa M.fn M.fc)/\X.cell? (qR w.heap.size 8)=some (qS (some$ qR gr 0) M.rn M.rc)/\X.cell? (qR w.heap.size 9)=some (qS M.oa M.on M.oc)/\X.cell? (qR w.heap.size 10)=some (qI M.md)/\X.cell? (qR w.heap.size 11)=some (qI M.bk)/\X.cell? (qR w.heap.size 12)=some (qS (some$ qR d 0) M.ln M.lc)/\X.cell? (qR w.heap.size 13)=some (qS M.ha M.hn M.hc)/\X.cell? (qR w.heap.size 14)=some (qI$ C.tn+1))/\X.cell? (qR (w.heap.size+1) 2)=some (qS (some$ qR gs os) Y.L.slots.length Y.c2)/\X.cell? (qR gs$ os+s)=some (qI A)/\(X.cell? (qR d$ s*4)=some (.bool true)/\X.cell? (qR d$ s*4+1)=some (qI m)/\X.cell? (qR d$ s*4+2)=some (qI b)/\X.cell? (qR d$ s*4+3)=some (qI$ C.tn+1))by
   have k0:=l.k0;rw[e]at k0;have el:=congrArg (λa=>a[12]?) e;simp at el;obtain⟨q,_⟩:=ai.o X C' M' l el.1 (by rw[el.2.1];omega);rw[ez]at q;have hg:(C.lz.set s (true,m,b,C.tn+1)).getD s zSl=(true,m,b,C.tn+1):=by simp[xB,a7]
   rw[hg]at q
   exact⟨k0.mc,by rw[<-ap];exact l.k1.cell 2,b7.o X l.lo,q 0 J _ rfl,q 1 J _ rfl,q 2 J _ rfl,q 3 J _ rfl⟩)
  have a5:=zh a2;have HS:=zh hS;have a9:=zh D;have W:y.kz=C.kz:=by rw[a0]
  have b4:y.ps=C.ps:=by rw[a0]
  have ba:=zh (show((qA p):Array Value)=#[qS M.ma M.mn M.mc,qI M.cs,qI M.cw,qI M.ck,qI M.cd,qI M.pc,qS M.ka M.kn M.kc,qS M.fa M.fn M.fc,qS (some$ qR gr 0) M.rn M.rc,qS M.oa M.on M.oc,qI M.md,qI M.bk,qS (some$ qR d 0) M.ln M.lc,qS M.ha M.hn M.hc,qI$ C.tn+1]/\y.lz=C.lz.set s (true,m,b,C.tn+1)by rw[a2,a0];dsimp only;rw[a3,ad];exact⟨rfl,rfl⟩);have dp:M.rn<=M.rc:=h.q.2.1.bs.2.2.2.2;have c1:(b !=-1)=true:=by simp[K.2]
  have bc:(0:Int)<(M.ln:Int):=jK K.1;have ds:(0:Int)<=(s:Int):=J
  have dg:(s:Int)<(M.ln:Int):=J
  have cy:(s:Int)<(Y.L.slots.length:Int):=J
  have b6:s<M.ln:=J
  have d7:0<=C.tn:=Q.t.1;have db:IntKind.i64.wrap (C.tn+1)=C.tn+1:=by rw[xP,xQ _ J]
  have dj:IntKind.i64.wrap (A-65536)=(f:Int):=by rw[xP,xQ _ J];omega
  have du:(f:Int)<=(M.rn:Int):=J
  have d6:(f:Int)<(M.rc:Int):=J
  have d4:f<M.rn:=J
  have d2:¬M.rc=f:=J
  have dh:f<M.rc:=J
  have d9:(0:Int)<=(f:Int):=J
  have E:=zh$ xA ad$ xA a3 e8;clear Q K a0 a2 bl bm ac b2 h hb ak hS D b9 a7 s1 s2 s3 s4 s5 s6 z1 z2 z3 hf hA hs ce bb e2 ad a3 e8 ap;go_enter Tryz.func175,Tryz.ntmps175
  go_wp2_with (rw[<-HU.o])
  apply ao.o.mono;rintro e X1 ⟨rfl,b5⟩;have ab:=zh$ a9.o.bw b5;clear b5 I y0 y1 y2 HU ao a9;have c7:X1.cell? (qR w.heap.size 14)=some (qI C.tn):=by rw[<-E.o.2.2];exact ab.o.k0.cell 14
  have c4:=ab.o.k0.frozen 14;obtain⟨X2,aq⟩:=aO$ X1.setCell ⟨w.heap.size,14,none⟩$ qI$ C.tn+1;have h2:Se w1 w X2 Y m b t { C with tn:=C.tn+1 } { M with tn:=C.tn+1 } base aN Ls β:=by rw[aq];exact ab.o.put 14 (qI$ C.tn+1) rfl λx=>x.stn _
  have c0:X2.cell? (qR w.heap.size 14)=some (qI$ C.tn+1):=h2.k0.cell 14;have bv:X2.cell? (qR w.heap.size 12)=some (qS (some$ qR d 0) M.ln M.lc):=by have q:=h2.k0.cell 12;rw[q];show some (qS M.la M.ln M.lc)=_;rw[E.o.1]
  obtain⟨y0,y1,_⟩:=show X2.cell? ⟨(w.heap.size+1+1),0,none⟩=some (qI m)/\X2.cell? ⟨(w.heap.size+1+1),1,none⟩=some (qI b)/\X2.cell? ⟨(w.heap.size+1+1),2,none⟩=some (qI t)from⟨h2.k2.cell 0,h2.k2.cell 1,h2.k2.cell 2⟩;obtain⟨qq,lf,dw,dx,dy,dz⟩:=ai.o X2 _ _ h2 E.o.1 b6;have l0:X2.cell? (qR d$ s*4)=_:=qq 0 J _ rfl;have l1:=qq 1 J _ rfl;have l2:=qq 2 J _ rfl;have l3:=qq 3 J _ rfl;obtain⟨b1,a1⟩:=aO$ (((X2.setCell ⟨d,s*4,none⟩$ .bool true).setCell ⟨d,s*4+1,none⟩$ qI m).setCell ⟨d,s*4+2,none⟩$ qI b).setCell ⟨d,s*4+3,none⟩$ qI$ C.tn+1;have h3:Se w1 w b1 Y m b t { C with tn:=C.tn+1,lz:=C.lz.set s (true,m,b,C.tn+1) } { M with tn:=C.tn+1,lz:=C.lz.set s (true,m,b,C.tn+1) } base aN Ls β:=by rw[a1];exact h2.slot hw E.o.1 s b6 true m b$ C.tn+1
  have aa:=zh h3;have be:=zh aq;have P:=zh a1;clear h2 aq a1 qq h3 ab;go_wp2_with (first|rw[<-be.o]|rw[<-P.o])
  clear c7 c4 c0 bv y0 y1 lf l0 l1 l2 l3 be P;obtain⟨⟨x0,x1,x2,x3,x4,x5,x6,x7,x8,x9,ax,ay,I,az,b0⟩,ys,ya,⟨l0,l1,l2,l3⟩⟩:=a6.o b1 _ _ aa.o (by unfold qA;dsimp only;rw[E.o.2.1,E.o.1]) rfl
  go_region_held3 (λw'=>(w'.cell? (qR w.heap.size 0)=some (qS M.ma M.mn M.mc)/\w'.cell? (qR w.heap.size 1)=some (qI M.cs)/\w'.cell? (qR w.heap.size 2)=some (qI M.cw)/\w'.cell? (qR w.heap.size 3)=some (qI M.ck)/\w'.cell? (qR w.heap.size 4)=some (qI M.cd)/\w'.cell? (qR w.heap.size 5)=some (qI M.pc)/\w'.cell? (qR w.heap.size 6)=some (qS M.ka M.kn M.kc)/\w'.cell? (qR w.heap.size 7)=some (qS M.fa M.fn M.fc)/\w'.cell? (qR w.heap.size 8)=some (qS (some$ qR gr 0) M.rn M.rc)/\w'.cell? (qR w.heap.size 9)=some (qS M.oa M.on M.oc)/\w'.cell? (qR w.heap.size 10)=some (qI M.md)/\w'.cell? (qR w.heap.size 11)=some (qI M.bk)/\w'.cell? (qR w.heap.size 12)=some (qS (some$ qR d 0) M.ln M.lc)/\w'.cell? (qR w.heap.size 13)=some (qS M.ha M.hn M.hc)/\w'.cell? (qR w.heap.size 14)=some (qI$ C.tn+1))/\w'.cell? (qR (w.heap.size+1) 2)=some (qS (some$ qR gs os) Y.L.slots.length Y.c2)/\w'.cell? (qR gs$ os+s)=some (qI A)/\(w'.cell? (qR d$ s*4)=some (.bool true)/\w'.cell? (qR d$ s*4+1)=some (qI m)/\w'.cell? (qR d$ s*4+2)=some (qI b)/\w'.cell? (qR d$ s*4+3)=some (qI$ C.tn+1))) (go_keep)
   (first
     | (go_at_call 120;first
         | with_reducible refine(ag.o _ aa.o).mono ?_
         | with_reducible refine(ag.o _$ aa.o.bw brf.drew).mono ?_
        rintro e Xc ⟨g,rfl,hc,O,V,he⟩;obtain⟨⟨x0,x1,x2,x3,x4,x5,x6,x7,x8,x9,ax,ay,I,az,b0⟩,ys,ya,⟨l0,l1,l2,l3⟩⟩:=a6.o Xc _ _ hc (by unfold qA;dsimp only;rw[E.o.2.1,E.o.1]) rfl
        obtain⟨⟨v0,v1,v2,v3,v4,v5,v6,v7,v8,v9,cq,cr,ct,cu,cw⟩,vs,va,⟨u0,u1,u2,u3⟩⟩:=a6.o O _ _ he ba.o.1 ba.o.2))
  have HE:=zh he;clear x0 x1 x2 x3 x4 x5 x6 x7 x8 x9 ax ay I az b0 v0 v1 v2 v3 v4 v5 v6 v7 v8 v9 cq cr ct cu cw ys ya vs va l0 l1 l2 l3 u0 u1 u2 u3 he hc V a6 ag ai b7 aa;have H:=G.o;have B:=aj.o;have hS:=HS.o
 rotate_left
 focus
  have hK:C.lz.length=0\/b=-1:=by
   by_cases q:b=-1
   .exact .inr q
   .exact .inl (xZ.1 λq'=>K ⟨q',q⟩)
  have bz:M.ln=0\/(M.ln≠0/\(b !=-1)=false):=by
   by_cases q:M.ln=0
   .exact .inl q
   .refine .inr ⟨q,?_⟩;rcases hK with hK|hK
    .exact absurd J q
    .simp[hK]
  obtain⟨y,a0⟩:∃y:Cn,y=C:=⟨_,rfl⟩;obtain⟨p,a2⟩:∃p:Mn,p=M:=⟨_,rfl⟩;obtain⟨S,hS⟩:∃S:Int,S=-1:=⟨_,rfl⟩;have G:Zh (S=-1\/(b≠-1/\0<=S/\S<(Y.L.slots.length:Int))):=.inl hS;have aj:=zh (show 0<=eE Y.L (plc C.ps m.toNat) b S/\eE Y.L (plc C.ps m.toNat) b S<=100000 by rw[hS];exact aEf ac hp);have af:=zh (show { y with md:=m,bk:=b,pc:=eE Y.L (plc C.ps m.toNat) b S+4*t,kz:=y.kz.set 7 (plc C.ps m.toNat).data }=dG C Y.L m b t by rw[a0,hS];unfold dG;rw[if_neg K]);have a5:=zh$ xA a0 a2;have HS:=zh hS;have a9:=zh D;clear Q hK K a0 a2 bl bm ac b2 h hb ak hS D;rcases bz with b8|⟨b8,c1⟩
  all_goals
   first
    | have bc:¬(0:Int)<(M.ln:Int):=J
    | have bc:(0:Int)<(M.ln:Int):=J
   go_enter Tryz.func175,Tryz.ntmps175
   obtain⟨O,a1⟩:∃O:World,O=U:=⟨_,rfl⟩;have HE:=zh (show Se w1 w O Y m b t y p base aN Ls β by rw[a1,a5.o.1,a5.o.2];exact a9.o);have P:=zh$ a1.trans HU.o;rw[<-a1]at I y0 y1 y2;have W:y.kz=C.kz:=by rw[a5.o.1]
   have b4:y.ps=C.ps:=by rw[a5.o.1]
   have H:=G.o;have B:=aj.o;have hS:=HS.o;clear a1 HU b8
 all_goals
  have e3:y.kz.length=8:=by rw[W];exact cb
  obtain⟨gk,aw,ck⟩:∃gk,p.ka=some ⟨gk,0,none⟩/\p.kn=8:=by
   have hl:=gU HE.o.m.k;obtain⟨g',cp,e,_⟩:=World.ownsRow.form HE.o.m.k.1 J;simp only[Value.slice.injEq]at e;exact⟨g',e.1,J⟩
  obtain⟨bq,br,f0⟩:=show O.cell? ⟨w.heap.size,10,none⟩=some (qI p.md)/\O.cell? ⟨w.heap.size,11,none⟩=some (qI p.bk)/\∀i,O.frozen? ⟨w.heap.size,i,none⟩=false from⟨HE.o.k0.cell 10,HE.o.k0.cell 11,HE.o.k0.frozen⟩;obtain⟨z0,z1,z2⟩:=show O.cell? ⟨(w.heap.size+1+1),0,none⟩=some (qI m)/\O.cell? ⟨(w.heap.size+1+1),1,none⟩=some (qI b)/\O.cell? ⟨(w.heap.size+1+1),2,none⟩=some (qI t)from⟨HE.o.k2.cell 0,HE.o.k2.cell 1,HE.o.k2.cell 2⟩;obtain⟨X4,ar⟩:=aO$ (O.setCell ⟨w.heap.size,10,none⟩$ qI m).setCell ⟨w.heap.size,11,none⟩$ qI b;have h4:Se w1 w X4 Y m b t { y with md:=m,bk:=b } { p with md:=m,bk:=b } base aN Ls β:=by rw[ar];exact(HE.o.put 10 (qI m) rfl λx=>x.smd m).put 11 (qI b) rfl (λx=>x.sbk b)
  obtain⟨Z,hZ⟩:=aO$ eE Y.L (plc C.ps m.toNat) b S;have a8:=zh (λ(X:qw)(l:qY X4 X)=>(lT Y.L Y.a0 Y.c0 Y.xs Y.a2 Y.c2 Y.a5 Y.c5 Y.ts m b t S X ((hl.bw h4.lo).bw l) N.m0 N.m1 N.bb H).mono (λe w' he=>show e=.returned (qI Z)/\Se w1 w w' Y m b t { y with md:=m,bk:=b } { p with md:=m,bk:=b } base aN Ls β/\qY X4 w' from⟨by rw[he.1,hZ,aEe,N.p],h4.bw$ l.trans$ he.2.mono l.size,l.trans$ he.2.mono l.size⟩));have b3:=zh (show { y with md:=m,bk:=b,pc:=Z+4*t,kz:=y.kz.set 7 (plc C.ps m.toNat).data }=dG C Y.L m b t by rw[hZ];exact af.o);have dt:0<=Z:=by rw[hZ];exact B.1
  have d0:Z<=100000:=by rw[hZ];exact B.2
  have dl:t<=200:=jK N.w.2;have dk:IntKind.i64.wrap (4*t)=4*t:=by rw[xP,xQ _ J]
  have da:IntKind.i64.wrap (Z+4*t)=Z+4*t:=by rw[xP,xQ _ J]
  have dq:=xA N.m0 N.m1;have df:=xA N.d.1 N.d.2.1
  have bd:=zh (λ(X:qw)(l:qY w1 X)=>show ∃gp op,Y.a0=some (qR gp op)/\gp<w1.heap.size/\X.cell? (qR gp$ op+m.toNat*4+2)=some (qI (plc C.ps m.toNat).data)by
   obtain⟨gp,op,e,_,_,q2,_⟩:=hl.p.at m.toNat$ jL N.m0 N.m1;rw[N.p]at q2
   exact⟨gp,op,e,xD w1 _ q2,aB l q2⟩)
  have c8:=hl.p.2.1;unfold maxLen at c8;have HC:=zh λ(X:qw)(C':Cn)(M':Mn)(l:Se w1 w X Y m b t C' M' base aN Ls β)=>show(X.cell? (qR (w.heap.size+1) 0)=some (qS Y.a0 Y.xs.length Y.c0)/\X.cell? (qR (w.heap.size+1) 1)=some (qI Y.L.stack)/\X.cell? (qR (w.heap.size+1) 2)=some (qS Y.a2 Y.L.slots.length Y.c2)/\X.cell? (qR (w.heap.size+1) 3)=some (qI Y.L.flash)/\X.cell? (qR (w.heap.size+1) 4)=some (qI Y.L.ram)/\X.cell? (qR (w.heap.size+1) 5)=some (qS Y.a5 Y.ts.length Y.c5))/\X.cell? (qR (w.heap.size+1+1) 0)=some (qI m)/\X.cell? (qR (w.heap.size+1+1) 1)=some (qI b)/\X.cell? (qR (w.heap.size+1+1) 2)=some (qI t)from⟨l.k1.ly6,l.k2.cell 0,l.k2.cell 1,l.k2.cell 2⟩;have bf:=zh ar;have bg:=zh h4;clear h4 ar W b4 hZ H B af N hS HE hl;generalize (plc C.ps m.toNat).data=dd at *;rw[HS.o]at a8;have de:¬(w.heap.size+1+1)=w.heap.size:=J
  have d8:¬w.heap.size=(w.heap.size+1+1):=J
  go_wp2_with (first|rw[<-P.o]|rw[<-bf.o])
  obtain⟨⟨l0,l1,l2,l3,l4,l5⟩,bn,bo,bp⟩:=HC.o _ _ _ bg.o;clear bq br f0 z0 z1 z2 bf;try clear P I y0 y1 y2
  go_region_held3 (λw'=>(w'.cell? (qR (w.heap.size+1) 0)=some (qS Y.a0 Y.xs.length Y.c0)/\w'.cell? (qR (w.heap.size+1) 1)=some (qI Y.L.stack)/\w'.cell? (qR (w.heap.size+1) 2)=some (qS Y.a2 Y.L.slots.length Y.c2)/\w'.cell? (qR (w.heap.size+1) 3)=some (qI Y.L.flash)/\w'.cell? (qR (w.heap.size+1) 4)=some (qI Y.L.ram)/\w'.cell? (qR (w.heap.size+1) 5)=some (qS Y.a5 Y.ts.length Y.c5))/\w'.cell? (qR (w.heap.size+1+1) 0)=some (qI m)/\w'.cell? (qR (w.heap.size+1+1) 1)=some (qI b)/\w'.cell? (qR (w.heap.size+1+1) 2)=some (qI t)) (go_keep)
   (first
     | (go_at_call 123;first
         | with_reducible refine(a8.o _ brf).mono ?_
         | with_reducible refine(a8.o _ brf.drew).mono ?_
        rintro e Xb ⟨rfl,B,ae⟩;obtain⟨p5,co⟩:=show Xb.cell? ⟨w.heap.size,5,none⟩=some (qI p.pc)/\Xb.frozen? ⟨w.heap.size,5,none⟩=false from⟨B.k0.cell 5,B.k0.frozen 5⟩
        obtain⟨⟨l0,l1,l2,l3,l4,l5⟩,bn,bo,bp⟩:=HC.o _ _ _ B))
  obtain⟨X5,au⟩:=aO$ Xb.setCell ⟨w.heap.size,5,none⟩$ qI$ Z+4*t;have h5:Se w1 w X5 Y m b t { y with md:=m,bk:=b,pc:=Z+4*t } { p with md:=m,bk:=b,pc:=Z+4*t } base aN Ls β:=by rw[au];exact B.put 5 (qI$ Z+4*t) rfl λx=>x.spc$ Z+4*t
  have x6:X5.cell? (qR w.heap.size 6)=some (qS (some$ qR gk 0) 8 p.kc):=by have q:=h5.k0.cell 6;rw[q];show some (qS p.ka p.kn p.kc)=_;rw[aw,ck]
  obtain⟨gp,op,bi,ea,xd⟩:=bd.o X5 h5.lo;have c3:X5.cell? (qR (w.heap.size+1) 0)=some (qS (some$ qR gp op) Y.xs.length Y.c0):=by rw[<-bi];exact h5.k1.cell 0
  have y0:X5.cell? (qR (w.heap.size+1+1) 0)=some (qI m):=h5.k2.cell 0
  obtain⟨⟨u,x7⟩,xf,a4,cl⟩:(∃u,X5.cell? ⟨gk,7,none⟩=some u)/\(∀i,X5.frozen? ⟨gk,i,none⟩=false)/\(gk≠w.heap.size/\gk≠(w.heap.size+1)/\gk≠(w.heap.size+1+1))/\w1.heap.size<=gk:=by
   have am:OI X5 aN (qS (some$ qR gk 0) p.kn p.kc) y.kz:=by rw[<-aw];exact h5.m.k
   obtain⟨cs,kb⟩:=aE am.1 (k:=gk) rfl;have lo:=(am.lt gk rfl).1;have ch:=h5.m.bm;refine⟨⟨_,am.is.at 7 J⟩,kb.frozen,⟨λe=>?_,λe=>?_,λe=>?_⟩,J⟩
   .rw[e]at kb;exact absurd (aH kb h5.k0) Ja
   .rw[e]at kb;exact absurd (aH kb h5.k1) Ja
   .rw[e]at kb;exact absurd (aH kb h5.k2) Ja
  have dc:¬gk=w.heap.size:=a4.1;have d3:¬w.heap.size=gk:=λe=>a4.1 e.symm;have di:¬gk=(w.heap.size+1):=a4.2.1;have dn:¬(w.heap.size+1)=gk:=λe=>a4.2.1 e.symm;have ak:¬gk=(w.heap.size+1+1):=a4.2.2;have d1:¬(w.heap.size+1+1)=gk:=λe=>a4.2.2 e.symm;have d5:¬gk=gp:=J
  have cx:¬gp=gk:=J
  obtain⟨X6,av⟩:=aO$ (X5.setCell ⟨gk,7,none⟩$ qI dd).drew;obtain⟨M6,bj⟩:∃M6:Mn,M6={ p with md:=m,bk:=b,pc:=Z+4*t,kz:=y.kz.set 7 dd }:=⟨_,rfl⟩
  have h6:Se w1 w X6 Y m b t (dG C Y.L m b t) M6 base aN Ls β:=by
   rw[<-b3.o,av,bj];exact(h5.reg hw aw 7 (by show 7<p.kn;omega) dd Jh).bw brf.drew
  obtain⟨x0,x1,x2,x3,x4,x5,eh,ei,x8,x9,ax,ay,I,az,b0⟩:=h6.k0.mc;have KR:=h6.k3;unfold z15 at KR;obtain⟨r0,r1,r2,r3,r4,r5,r6,r7,r8,r9,ec,ed,ee,ef,eg⟩:=KR.mc;have rf:=KR.frozen;have HF:Zh (LeP w1 w base aN Ls β Y C m b t (.returned$ .agg$ qA M6)$ stM X6 (w.heap.size+1+1+1) M6):=⟨M6,rfl,h6.m.tm$ dH h6.k3$ bG _ _ _ _ _ _ _ _ _ _ _ _ _ _ _ _ _,aF h6.lo (bG _ _ _ _ _ _ _ _ _ _ _ _ _ _ _ _ _) (λj hj=>jK h6.l) h6.lo.size,aNy h6.tg (bG _ _ _ _ _ _ _ _ _ _ _ _ _ _ _ _ _) J⟩;have c9:=zh h6.k3;have c5:=zh au;have cc:=zh av;clear h5 h6 au av bj bg a4 cl bi ae B l0 l1 l2 l3 l4 l5 bn bo bp HC a8 bd b3 KR;go_wp2_with (rw[<-c5.o])
  clear p5 co
  go_region_held3 (λw'=>w'.cell? (qR w.heap.size 6)=some (qS (some$ qR gk 0) 8 p.kc)/\w'.cell? (qR (w.heap.size+1) 0)=some (qS (some$ qR gp op) Y.xs.length Y.c0)/\w'.cell? (qR (w.heap.size+1+1) 0)=some (qI m)/\w'.cell? (qR gp$ op+m.toNat*4+2)=some (qI dd)) (go_keep) (fail)
  rw[<-cc.o];clear x6 x7 c3 y0 xd xf;go_wp2;exact aSx c9.o _ _ _ _ _ _ _ _ _ _ _ _ _ _ _ _ _ rfl HF.o
def sJ {W d:qw}{a:qO}{sz:Nat}(h:Sl S W a n sz)(b:Sl S' d a n sz):Sl (λj=>S j/\S' j) W a n sz:=λi=>by
 let⟨g,o,k,t,e,hs,l,p⟩:=h i;let⟨s,u,_,_,f,q,_,_⟩:=b i;rw[e]at f;cases f
 exact⟨g,o,k,t,e,⟨hs,q⟩,l,p⟩
def aSo {W d:qw}{c:Nat}{ms:List Md}{F:Nat->Nat->Rw3}(h:Mrs S W c n ms F)(a:Mrs S' d c n ms F):Mrs (λj=>S j/\S' j) W c n ms F:=
 ⟨λq=>h.nc q.1,h.head,λi hi=>⟨sJ (h.rows i hi).t (a.rows i hi).t,⟨λp=>by obtain⟨g,o,e,t,f,hs,k,l⟩:=(h.rows i hi).b.head p;exact⟨g,o,e,t,f,λq=>hs q.1,k,l⟩,λj b=>sJ ((h.rows i hi).b.rows j b)$ (a.rows i hi).b.rows j b⟩,sJ (h.rows i hi).d (a.rows i hi).d,sJ (h.rows i hi).r (a.rows i hi).r,sJ (h.rows i hi).i (a.rows i hi).i,sJ (h.rows i hi).e (a.rows i hi).e,(h.rows i hi).g⟩⟩
def aKe (M base g0 S g2 g3 g4 g5 g6 a0 w0 W6 W)(h:MnR W6 base M g0 S g2 g3 g4 g5 g6 a0)(t:MnT w0 M)(b:MnB M)(N:qY W6 W):
 qC 10 #[.agg$ qK M g0 S g2 g3 g4 g5 g6,qI 1] W λe w'=>∃k:Nat,e=.returned (qI k)/\Turn (λj=>base<=j/\j<W6.heap.size) W w'/\k<=20000000:=by
 let⟨V,hV,bV,kV⟩:=nwb W (qK M g0 S g2 g3 g4 g5 g6) 43;have P:=yT N bV;have d:=h.bw P;let⟨W',hx,a1⟩:=h.x;let⟨q0,q1,q2,q3,q4,q5,q6⟩:=h.b;have l6:=(h.h.lt g6 rfl).2;have hs:=N.size;have mr:=(aSo (aF9 h.m h.n t.m)$ aF9 hx h.n t.m).kept$ Mkd.bw P;have c3:=aMd h.m h.n t.m;have bs:=b.s;let⟨_,z2,z3⟩:=aOt h.m h.n t.m J;have O:=zh$ yL _ g0 M.mn M.mn 1 a0 _ V mr J z2 z3 b.n;generalize upS (jF a0 λi=>bnF$ a0.getD i aM) M.mn=u at O c3;have H:OI V base (qS (qP S) M.kn M.kn) M.kz:=by have e:=t.k.1;have:=RowI.oi (base:=base) d.k J (jK t.k.2.1) t.k.2.2.1;rw[e]at this;exact this
 have C:cB V base (qS (qP g2) M.fn M.fn) (qS (qP g3) M.rn M.rn) (qS (qP g4) M.on M.on) M.fz M.rz M.oz:=⟨nV d.f t.f.1 J (jK t.f.2.1) t.f.2.2.1,nV d.r t.r.1 J (jK t.r.2.1) t.r.2.2.1,nV d.o t.o.1 J (jK t.o.2.1) t.o.2.2.1,λk j a f=>by simp[Value.ownBlock]at a f;omega,λk j a f=>by simp[Value.ownBlock]at a f;omega,λk j a f=>by simp[Value.ownBlock]at a f;omega⟩;have p:=d.l;have l:=d.h;have E:=zh$ xA q0$ xA q1$ xA q2$ xA q3$ xA q4$ xA q5$ xA q6$ xA l6 hs;have K:=zh a1;have U:=zh$ xA (show Turn (λj=>base<=j/\j<W6.heap.size) W V/\Blk V W.heap.size (qK M g0 S g2 g3 g4 g5 g6) 43 from⟨aG bV,kV⟩)$ xA H$ xA C$ xA p l;have HV:=zh hV;have I:=kV.mc
 delta qC;go_in
 go_wp2_with (rw[<-HV.o])
 apply O.mono;rintro e x ⟨rfl,mk⟩
 have A:=zh (show(Turn (λj=>base<=j/\j<W6.heap.size) W x/\Blk x W.heap.size (qK M g0 S g2 g3 g4 g5 g6) 43)/\(OI x base (qS (qP S) M.kn M.kn) M.kz)/\(cB x base (qS (qP g2) M.fn M.fn) (qS (qP g3) M.rn M.rn) (qS (qP g4) M.on M.on) M.fz M.rz M.oz)/\(OG 132 4 cO x base (qS (qP g5) M.ln M.ln) M.lz)/\OG 136 4 bS x base (qS (qP g6) M.hn M.hn) M.hz by
  obtain⟨⟨T0,k0⟩,H,C,p,l⟩:=U;have q:=E;have q':=K;have T:=mk.turn;have g:∀k,S<=k->¬((Sm W6 g0 k/\Sm W' g0 k)\/k=g0):=λk a s=>by rcases s with⟨_,s⟩|s;exact absurd s.2.1 J;omega
  exact⟨⟨T0.trans (T.mono (λj f=>by rcases f with⟨s,_⟩|s;exact⟨jK s.1,s.2.1⟩;exact⟨J,J⟩)),aC T k0$ g _ J⟩,aV T H (λk a=>g k (by simp only[Value.ownBlock,Option.some.injEq]at a;omega)),dV C T (λj f=>g j (by rcases f with a|a|a<;>(simp only[Value.ownBlock,Option.some.injEq]at a;omega))),p.kept T (λk a=>g k (by simp only[Value.ownBlock,Option.some.injEq]at a;omega)),l.kept T (λk a=>g k (by simp only[Value.ownBlock,Option.some.injEq]at a;omega))⟩)
 have Z:=zh$ yO M.pc (qP S) M.kn M.kn base _ (1+u) x A.2.1 J J;have I:=A.1.2.mc;go_wp2_with fail
 apply Z.mono;rintro e D ⟨rfl,_,T⟩
 have y:=zh (show(Turn (λj=>base<=j/\j<W6.heap.size) W D/\Blk D W.heap.size (qK M g0 S g2 g3 g4 g5 g6) 43)/\(cB D base (qS (qP g2) M.fn M.fn) (qS (qP g3) M.rn M.rn) (qS (qP g4) M.on M.on) M.fz M.rz M.oz)/\(OG 132 4 cO D base (qS (qP g5) M.ln M.ln) M.lz)/\OG 136 4 bS D base (qS (qP g6) M.hn M.hn) M.hz by
  obtain⟨⟨T0,k0⟩,H,C,p,l⟩:=A;have q:=E;have g:∀k,S<k->¬(qS (qP S) M.kn M.kn).ownBlock=some k:=λk a2 a=>by simp only[Value.ownBlock,Option.some.injEq]at a;omega
  exact⟨⟨T0.trans (T.mono (λj a=>⟨by simp only[Value.ownBlock,Option.some.injEq]at a;omega,by simp only[Value.ownBlock,Option.some.injEq]at a;omega⟩)),aC T k0$ g _ J⟩,dV C T (λj f=>g j (by rcases f with a|a|a<;>(simp only[Value.ownBlock,Option.some.injEq]at a;omega))),p.kept T (λk a=>g k (by simp only[Value.ownBlock,Option.some.injEq]at a;omega)),l.kept T (λk a=>g k (by simp only[Value.ownBlock,Option.some.injEq]at a;omega))⟩)
 have Y:=zh$ aCn (qP g2) (qP g3) (qP g4) M.fn M.fn M.rn M.rn M.on M.on base _ _ _ (1+u+M.kn) D (vJ y.2.1) J;have I:=y.1.2.mc;go_wp2_with fail
 apply Y.mono;rintro e G ⟨rfl,_,T⟩
 have w:=zh (show(Turn (λj=>base<=j/\j<W6.heap.size) W G/\Blk G W.heap.size (qK M g0 S g2 g3 g4 g5 g6) 43)/\(OG 132 4 cO G base (qS (qP g5) M.ln M.ln) M.lz)/\OG 136 4 bS G base (qS (qP g6) M.hn M.hn) M.hz by
  let⟨⟨T0,k0⟩,C,p,l⟩:=y;have q:=E;have rg:∀j,vG (qS (qP g2) M.fn M.fn) (qS (qP g3) M.rn M.rn) (qS (qP g4) M.on M.on) j->g2<=j/\j<=g4:=λj f=>by rcases f with a|a|a<;>(simp only[Value.ownBlock,Option.some.injEq]at a;omega)
  exact⟨⟨T0.trans$ T.mono λj a=>jK$ rg j a,aC T k0 λs=>jK$ rg _ s⟩,p.kept T (λk a s=>by have:=rg _ s;simp only[Value.ownBlock,Option.some.injEq]at a;omega),l.kept T (λk a s=>by have:=rg _ s;simp only[Value.ownBlock,Option.some.injEq]at a;omega)⟩)
 have C3:=zh$ oS (qP g5) M.ln M.ln base _ (1+u+M.kn+M.fn+M.rn+M.on) G w.2.1 J J;have I:=w.1.2.mc;go_wp2_with fail
 apply C3.mono;rintro e w4 ⟨rfl,_,T⟩
 have B:=zh (show(Turn (λj=>base<=j/\j<W6.heap.size) W w4/\Blk w4 W.heap.size (qK M g0 S g2 g3 g4 g5 g6) 43)/\OG 136 4 bS w4 base (qS (qP g6) M.hn M.hn) M.hz by
  let⟨⟨T0,k0⟩,p,l⟩:=w;have q:=E
  exact⟨⟨T0.trans (T.mono (λj a=>⟨by simp only[Value.ownBlock,Option.some.injEq]at a;omega,by simp only[Value.ownBlock,Option.some.injEq]at a;omega⟩)),aC T k0 (λa=>by simp only[Value.ownBlock,Option.some.injEq]at a;omega)⟩,l.kept T (λk a s=>by simp only[Value.ownBlock,Option.some.injEq]at a s;omega)⟩)
 have C4:=zh$ nA (qP g6) M.hn M.hn base _ (1+u+M.kn+M.fn+M.rn+M.on+4*M.ln) w4 B.2 J J;have I:=B.1.2.mc;go_wp2_with fail
 apply C4.mono;rintro e X ⟨rfl,_,T⟩
 have Q:=zh (show Turn (λj=>base<=j/\j<W6.heap.size) W X by
  have q:=E
  exact B.o.1.1.trans (T.mono (λj a=>⟨by simp only[Value.ownBlock,Option.some.injEq]at a;omega,by simp only[Value.ownBlock,Option.some.injEq]at a;omega⟩)))
 go_wp2;go_ret;exact⟨1+u+M.kn+M.fn+M.rn+M.on+4*M.ln+4*M.hn,by go_num,Q,J⟩
def aH0 (M base f g i l g4 p s u w d W)(h:MnR d base M f g i l g4 p s u)(t:MnT w M)(b:MnB M)(a:qY d W):qC 10 #[.agg$ qK M f g i l g4 p s,qI 1] W λe w'=>∃k:Nat,e=.returned (qI k)/\Turn (λj=>base<=j/\j<d.heap.size) W w':=(aKe M base f g i l g4 p s u w d W h t b a).mono λ_ _⟨k,e,q,_⟩=>⟨k,e,q⟩
end Go.Proofs.YtdjdcdnjjmjonaaGreat
namespace Go.Proofs.YtdjdcdnjjmjonaaGreat
open Go.ChangeShapes Go.WideShapes Go.ChangeAt Go.RowKit
variable {base fuel:Nat}{cs:List Value}{held:Bool}
theorem aKf (b off i):(Addr.add (qR b off) i)=(qR b$ off+i):=by
 simp only[Addr.add]
 grind
set_option maxRecDepth 100000 in
theorem lW {H:Type}{enc:TypeId×Value->H}{w:qw}{x:DataW H×List MemPlace}
 (h:DataW.trod enc Tryz.prog w base (λ_=>true) held fuel 25 cs=some x):∃a n g zs,cs=[qS a n g]/\IS w a n g zs:=by
 rcases open_ints Tryz.underlying25 Tryz.underlying3 Je h with⟨e,_⟩|⟨x,l,c,zs,e,_,p,s,t,_,d,k⟩
 .exact⟨none,0,0,[],e,rfl,Nat.zero_le _,Jb,λh=>absurd rfl h,aQ⟩
 .simp at t;refine⟨some x,l,c,zs.take l,e,by grind,J,λz j=>wf_i64$ k z$ List.mem_of_mem_take j,λq=>?_,p⟩;obtain⟨b,off,u⟩:=x;have f:u=none:=by simpa[Addr.add]using World.cell?_spot$ d 0 J
  subst f;refine⟨b,off,rfl,λi hi=>?_⟩;have:=d i J;rw[aKf]at this
  grind
set_option maxRecDepth 100000 in
theorem aHw {H:Type}{enc:TypeId×Value->H}{w:qw}{x:DataW H×List MemPlace}
 (h:DataW.trod enc Tryz.prog w base (λ_=>true) held fuel 99 cs=some x):∃a n f bl,cs=[qS a n f]/\BKS w a n f bl:=by
 have e1:Tryz.prog.cellsOf 25=1:=Je
 rcases Deep.open_slice Tryz.underlying99 h with⟨j,_⟩|⟨a,len,f,m,n,D,Pl,j,t,s,u,l,hx,hd⟩
 .exact⟨none,0,0,[],j,rfl,Nat.zero_le _,λh=>absurd rfl h,λi hi=>J,aQ⟩
 .simp at l;rw[l]at hd;rw[e1]at hd
  let⟨G,B⟩:=Deep.choose_lt (α:=Bk) (p:=λi g=>(∃d,w.cells? base (a.add$ i*1) 1=some d/\d=[qS g.1 g.2.1 g.2.2.1])/\IS w g.1 g.2.1 g.2.2.1 g.2.2.2) (n:=len) (λi hi=>by
   let⟨d,y,A⟩:=hd i J;let⟨C,K,E,N,e,I⟩:=lW A
   exact⟨(C,K,E,N),⟨d,y,e⟩,I⟩)
  have q:∀i,i<len->((List.range len).map G).getD i zB=G i:=λi hi=>by grind
  refine⟨some a,len,f,(List.range len).map G,j,Jb,J,?_,λi hi=>by grind,s⟩;intro O;obtain⟨b,off,M⟩:=a
  have k:M=none:=by
   let⟨⟨d,y,A⟩,_⟩:=B 0 J;have:=(World.cells?_some y).2.2 0 J;rw[A]at this;simpa[Addr.add]using World.cell?_spot this
  subst k;refine⟨b,off,rfl,λi hi=>?_⟩;let⟨⟨d,y,A⟩,_⟩:=B i hi;have hc:=(World.cells?_some y).2.2;rw[A]at hc;rw[q i hi];simp only[aKf]at hc
  grind
set_option maxRecDepth 100000 in
theorem aH4 {H:Type}{enc:TypeId×Value->H}{w:qw}{x:DataW H×List MemPlace}
 (h:DataW.trod enc Tryz.prog w base (λ_=>true) held fuel 100 cs=some x):∃a n f ss,cs=[qS a n f]/\TS w a n f ss:=by
 have e1:Tryz.prog.cellsOf 9=1:=Je
 have A:zS.size<=maxLen:=Ja
 rcases Deep.open_slice Tryz.underlying100 h with⟨j,_⟩|⟨a,len,f,m,n,D,Pl,j,u,t,y,l,hx,hd⟩
 .exact⟨none,0,0,[],j,rfl,Nat.zero_le _,λi=>by grind,λh=>absurd rfl h,aQ⟩
 .simp at l;rw[l]at hd;rw[e1]at hd
  let⟨G,E⟩:=Deep.choose_lt (α:=ByteArray) (p:=λi g=>(∃d,w.cells? base (a.add$ i*1) 1=some d/\d=[Value.string g])/\g.size<=maxLen) (n:=len) (λi hi=>by
   let⟨d,C,B⟩:=hd i J;let⟨s,e,_,K⟩:=DataW.trod_string Tryz.underlying9 B
   grind)
  have q:∀i,i<len->((List.range len).map G).getD i zS=G i:=λi hi=>by grind
  refine⟨some a,len,f,(List.range len).map G,j,Jb,J,λi=>?_,?_,t⟩
  .grind
  intro M;obtain⟨b,off,I⟩:=a
  have k:I=none:=by
   let⟨⟨d,C,B⟩,_⟩:=E 0 J;have:=(World.cells?_some C).2.2 0 J;rw[B]at this;simpa[Addr.add]using World.cell?_spot this
  subst k;refine⟨b,off,rfl,λi hi=>?_⟩;let⟨⟨d,C,B⟩,_⟩:=E i hi;have hc:=(World.cells?_some C).2.2;rw[B]at hc;rw[q i hi];simp only[aKf]at hc
  grind
set_option maxRecDepth 100000 in
def aE6 {H:Type}{enc:TypeId×Value->H}{w:qw}{base:Nat}{u:Bool}{a:Nat->Bool}{t:Nat}{cs:List Value}{x:DataW H×List MemPlace}
 (h:DataW.trod enc Tryz.prog w base a u t 223 cs=some x):∃g:Ex,cs=[.string g.1,qI g.2.1,qI g.2.2]/\g.1.size<=maxLen:=by
 let⟨B,n,_,_,l,y,f⟩:=DataW.trod_struct Tryz.underlying223 h;have e6:Tryz.prog.cellsOf 223=3:=Je
 rw[e6]at l
 match B,y,cs,l with
 | [y0,y1,y2],_,[c0,c1,c2],_=>
 have e:=f 0 _ rfl;have d:=f 1 _ rfl;have b:=f 2 _ rfl;have e3:Tryz.prog.cellsOf 3=1:=Je
 have e4:Tryz.prog.cellsOf 9=1:=Je
 simp[e3,e4]at e d b;let⟨p,i,_,A⟩:=DataW.trod_string Tryz.underlying9 e;let⟨q,j,_,C⟩:=DataW.trod_int Tryz.underlying3 d;let⟨s,k,_,D⟩:=DataW.trod_int Tryz.underlying3 b;simp at i j k;subst i j k;exact⟨(p,q,s),rfl,A⟩
set_option maxRecDepth 100000 in
theorem aH8 {H:Type}{enc:TypeId×Value->H}{w:qw}{x:DataW H×List MemPlace}
 (h:DataW.trod enc Tryz.prog w base (λ_=>true) held fuel 101 cs=some x):∃a n f es,cs=[qS a n f]/\TE w a n f es:=by
 have e1:Tryz.prog.cellsOf 223=3:=Je
 have A:(zE).1.size<=maxLen:=Ja
 rcases Deep.open_slice Tryz.underlying101 h with⟨j,_⟩|⟨a,len,f,m,n,D,Pl,j,u,t,y,l,hx,hd⟩
 .exact⟨none,0,0,[],j,rfl,Nat.zero_le _,λi=>by grind,λh=>absurd rfl h,aQ⟩
 .simp at l;rw[l]at hd;rw[e1]at hd
  let⟨G,E⟩:=Deep.choose_lt (α:=Ex) (p:=λi g=>(∃d,w.cells? base (a.add$ i*3) 3=some d/\d=[.string g.1,qI g.2.1,qI g.2.2])/\g.1.size<=maxLen) (n:=len) (λi hi=>by
   let⟨d,C,B⟩:=hd i J;let⟨s,e,K⟩:=aE6 B
   grind)
  have q:∀i,i<len->((List.range len).map G).getD i zE=G i:=λi hi=>by grind
  refine⟨some a,len,f,(List.range len).map G,j,Jb,J,λi=>?_,?_,t⟩
  .grind
  intro M;obtain⟨b,off,I⟩:=a
  have k:I=none:=by
   let⟨⟨d,C,B⟩,_⟩:=E 0 J;have:=(World.cells?_some C).2.2 0 J;rw[B]at this;simpa[Addr.add]using World.cell?_spot this
  subst k;refine⟨b,off,rfl,λi hi=>?_⟩;let⟨⟨d,C,B⟩,_⟩:=E i hi;have hc:=(World.cells?_some C).2.2;rw[B]at hc;rw[q i hi];simp only[aKf]at hc;exact⟨hc 0 J,hc 1 J,hc 2 J⟩
set_option maxRecDepth 100000 in
def aEo {H:Type}{enc:TypeId×Value->H}{w:qw}{base:Nat}{V:Bool}{U:Nat}{cs:List Value}{x:DataW H×List MemPlace}
 (h:DataW.trod enc Tryz.prog w base (λ_=>true) V U 103 cs=some x):∃m:Md,cs=m.cells.toList/\m.mt w:=by
 let⟨xs,n,_,_,B,W,k⟩:=DataW.trod_struct Tryz.underlying103 h;have e8:Tryz.prog.cellsOf 103=8:=Je
 rw[e8]at B
 match xs,W,cs,B with
 | [y0,y1,y2,y3,y4,y5,y6,y7],_,[c0,c1,c2,c3,c4,c5,c6,c7],_=>
 have g:=k 0 _ rfl;have b:=k 1 _ rfl;have d:=k 2 _ rfl;have j:=k 3 _ rfl;have i:=k 4 _ rfl;have a:=k 5 _ rfl;have e:=k 6 _ rfl;have f:=k 7 _ rfl;have e1:Tryz.prog.cellsOf 3=1:=Je
 have e2:Tryz.prog.cellsOf 9=1:=Je
 have e3:Tryz.prog.cellsOf 25=1:=Je
 have e4:Tryz.prog.cellsOf 99=1:=Je
 have e5:Tryz.prog.cellsOf 28=1:=Je
 have e6:Tryz.prog.cellsOf 100=1:=Je
 have e7:Tryz.prog.cellsOf 101=1:=Je
 simp[e1,e2,e3,e4,e5,e6,e7]at g b d j i a e f;let⟨nm,l,_,w0⟩:=DataW.trod_string Tryz.underlying9 g;let⟨ta,tn,tc,tz,p,w1⟩:=lW b;let⟨C,G,D,E,q,w2⟩:=aHw d;let⟨K,N,M,O,s,w3⟩:=mC j;let⟨I,t,_,w4⟩:=DataW.trod_int Tryz.underlying3 i;let⟨ra,rn,rc,rz,u,w5⟩:=lW a;let⟨X,Z,Y,ss,y,w6⟩:=aH4 e;let⟨P,S,Q,es,A,w7⟩:=aH8 f;simp at l p q s t u y A;subst l p q s t u y A;exact⟨⟨nm,ta,tn,tc,tz,C,G,D,E,K,N,M,O,I,ra,rn,rc,rz,X,Z,Y,ss,P,S,Q,es⟩,rfl,w0,w1,w2,w3,wf_i64 w4,w5,w6,w7⟩
set_option maxRecDepth 100000 in
theorem aIw {H:Type}{enc:TypeId×Value->H}{w:qw}{x:DataW H×List MemPlace}
 (h:DataW.trod enc Tryz.prog w base (λ_=>true) held fuel 22 cs=some x):∃a n f ms,cs=[qS a n f]/\MS w a n f ms:=by
 have e1:Tryz.prog.cellsOf 103=8:=Je
 rcases Deep.open_slice Tryz.underlying22 h with⟨j,_⟩|⟨a,len,f,m,n,D,Pl,j,u,t,y,l,hx,hd⟩
 .exact⟨none,0,0,[],j,rfl,Nat.zero_le _,λh=>absurd rfl h,λi hi=>J,aQ⟩
 .simp at l;rw[l]at hd;rw[e1]at hd
  haveI:Inhabited Md:=⟨aM⟩
  let⟨G,C⟩:=Deep.choose_lt (α:=Md) (p:=λi g=>(∃d,w.cells? base (a.add$ i*8) 8=some d/\d=g.cells.toList)/\g.mt w) (n:=len) (λi hi=>by
   let⟨d,B,A⟩:=hd i J;let⟨s,e,I⟩:=aEo A
   grind)
  have q:∀i,i<len->((List.range len).map G).getD i aM=G i:=λi hi=>by grind
  refine⟨some a,len,f,(List.range len).map G,j,Jb,J,?_,λi hi=>by grind,t⟩;intro K;obtain⟨b,off,E⟩:=a
  have k:E=none:=by
   let⟨⟨d,B,A⟩,_⟩:=C 0 J;have:=(World.cells?_some B).2.2 0 J;rw[A]at this;simpa[Addr.add,Md.cells]using World.cell?_spot this
  subst k;refine⟨b,off,rfl,λi hi=>?_⟩;let⟨⟨d,B,A⟩,_⟩:=C i hi;have hc:=(World.cells?_some B).2.2;rw[A]at hc;rw[q i hi];simp only[aKf]at hc;exact⟨hc 0 J,hc 1 J,hc 2 J,hc 3 J,hc 4 J,hc 5 J,hc 6 J,hc 7 J⟩
