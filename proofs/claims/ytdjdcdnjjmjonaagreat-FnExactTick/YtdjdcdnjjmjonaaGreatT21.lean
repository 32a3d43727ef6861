import Derived.Test.YtdjdcdnjjmjonaaGreatT19
set_option linter.all false
namespace Go.Proofs.YtdjdcdnjjmjonaaGreat
open Go.RowKit
set_option maxRecDepth 100000
set_option maxHeartbeats 16000000 in
def tV (w1 base aP Ls)(β:Nat->Nat)(Y C M m b t w)(h:MxO w base aP C M Ls β)(hb:qY w1 w)(hw:w1.heap.size<=base)(hl:Y.T w1)(Q:Cv C Y.L)(ht:C.tn<1000000000)(hp:tgk C.ps m b t):
 qC 175 #[.agg$ qA M,.agg$ qL Y.L Y.a0 Y.xs.length Y.c0 Y.a2 Y.L.slots.length Y.c2 Y.a5 Y.ts.length Y.c5,.agg$ qT m b t] w (LeP w1 w base aP Ls β Y C m b t):=by
 obtain⟨U,hU⟩:=aN$ (((w.alloc$ .cells (qA M) 43).alloc$ .cells (qL Y.L Y.a0 Y.xs.length Y.c0 Y.a2 Y.L.slots.length Y.c2 Y.a5 Y.ts.length Y.c5) 65).alloc$ .cells (qT m b t) 121).alloc$ .cells qZ 43;have bU:qY w U:=by rw[hU];exact((bal.alloc Jb _).alloc Jc _).alloc Jc _
 have D:Se w1 w U Y m b t C M base aP Ls β:=by
  refine⟨bP bU,hb.trans$ bU.mono hb.size,hb.size,?_,?_,?_,?_,h.bw bU⟩
  .rw[hU];exact(((Blk.new _ _ _).alloc _).alloc _).alloc _
  .rw[hU];have:=((Blk.new (w.alloc$ .cells (qA M) 43) (qL Y.L Y.a0 Y.xs.length Y.c0 Y.a2 Y.L.slots.length Y.c2 Y.a5 Y.ts.length Y.c5) 65).alloc$ .cells (qT m b t) 121).alloc$ .cells qZ 43;simpa using this
  .rw[hU];have:=(Blk.new ((w.alloc$ .cells (qA M) 43).alloc$ .cells (qL Y.L Y.a0 Y.xs.length Y.c0 Y.a2 Y.L.slots.length Y.c2 Y.a5 Y.ts.length Y.c5) 65) (qT m b t) 121).alloc$ .cells qZ 43;simpa using this
  .rw[hU];have:=Blk.new (((w.alloc$ .cells (qA M) 43).alloc$ .cells (qL Y.L Y.a0 Y.xs.length Y.c0 Y.a2 Y.L.slots.length Y.c2 Y.a5 Y.ts.length Y.c5) 65).alloc$ .cells (qT m b t) 121) z15 43;simpa[z15]using this
 obtain⟨_,ah,bj,bl,ab⟩:=Q.cf;obtain⟨hp,t0,t1⟩:=hp;have I:=pA (s:=0) hl ab hp;have c9:=Q.g;have b1:=fP h.l;have H:U.cell? (qR w.heap.size 12)=some (qS M.la M.ln M.lc):=D.k0.cell 12;obtain⟨y0,y1,y2⟩:=show U.cell? ⟨(w.heap.size+1+1),0,none⟩=some (qI m)/\U.cell? ⟨(w.heap.size+1+1),1,none⟩=some (qI b)/\U.cell? ⟨(w.heap.size+1+1),2,none⟩=some (qI t)from⟨D.k2.cell 0,D.k2.cell 1,D.k2.cell 2⟩;have HU:=zh hU;clear hU bU;by_cases K:C.lz.length≠0/\b≠-1
 focus
  have b8:0<=b:=jL I.bb K.2;have a6:=oU (xs:=C.lz) m b K.1;obtain⟨s1,s2,s3,s4,s5,s6⟩:=Q.slot a6;obtain⟨z1,z2,z3⟩:=gO Q.cf.1.1 Q.cf.1.2;have br:slz C.cw≠0:=jK Q.cf.1.1;have be:QS cM zSl U M.la M.ln M.lc C.lz:=tU cH D.m.l
  obtain⟨d,ac⟩:∃d,M.la=some ⟨d,0,none⟩:=by
   obtain⟨g',cp,e,_⟩:=World.ownsRow.form h.l$ jK K.1;simp only[Value.slice.injEq]at e;exact⟨g',e.1⟩
  have cb:=cS h.q.2.1;obtain⟨gr,a3⟩:∃gr,M.ra=some ⟨gr,0,none⟩:=aFv h.q.2.1;have e8:=h.vs.2.2.2.2.2.2.2;have e2:=h.vs.2.1;obtain⟨gs,os,ao,_⟩:=hl.s.2.2.2.1 J;have c6:=hl.s.2.1;unfold maxLen at c6;obtain⟨s,hs⟩:=aN$ slq C.lz m b;rw[<-hs]at a6 s1 s2 s3 s4 s6;obtain⟨A,hA⟩:=aN$ Y.L.slots.getD s 0;rw[<-hA]at s1 s2 s3 s6;obtain⟨f,hf⟩:=aN$ (A-65536).toNat;rw[<-hf]at s2;obtain⟨y,a0⟩:∃y:Cn,y={ C with tn:=C.tn+1,lz:=C.lz.set s (true,m,b,C.tn+1),rz:=ovr C.rz f (bkb C.ps C.cw m b) }:=⟨_,rfl⟩;obtain⟨p,a2⟩:∃p:Mn,p={ M with tn:=C.tn+1,lz:=C.lz.set s (true,m,b,C.tn+1),rz:=ovr C.rz f (bkb C.ps C.cw m b) }:=⟨_,rfl⟩;obtain⟨S,hS⟩:∃S:Int,S=((s:Nat):Int):=⟨_,rfl⟩;have F:Zh (S=-1\/(b≠-1/\0<=S/\S<(Y.L.slots.length:Int))):=.inr ⟨K.2,J,J⟩
  have ag:=zh (show 0<=fH Y.L (plc C.ps m.toNat) b S/\fH Y.L (plc C.ps m.toNat) b S<=100000 by
   unfold fH;rw[if_neg K.2,if_neg J,hS,xY,<-hA]
   omega)
  have ad:=zh (show { y with md:=m,bk:=b,pc:=fH Y.L (plc C.ps m.toNat) b S+4*t,kz:=y.kz.set 7 (plc C.ps m.toNat).data }=eG C Y.L m b t by rw[a0,hS,hf,hA,hs];unfold eG;rw[if_pos K]);have ai:=zh$ aId M.la M.ln M.lc C.lz m b t U be$ aQr Q.s;rw[<-hs]at ai
  have bc:=zh (λ(X:qw)(l:qY w1 X)=>show X.cell? (qR gs$ os+s)=some (qI A)by
   obtain⟨ds,dy,bg,cg⟩:=(hl.bw l).s.2.2.2.1 J;rw[ao]at bg;cases bg
   rw[hA]
   exact cg s J)
  have ae:=zh (λ(X:qw)(C':Cn)(M':Mn)(l:Se w1 w X Y m b t C' M' base aP Ls β)(e:M'.la=some (qR d 0))(e':s<M'.ln)=>show(∀j,j<4->∀u,(cM$ C'.lz.getD s zSl)[j]?=some u->X.cell? (qR d$ s*4+j)=some u)/\(∀i,X.frozen? (qR d i)=false)/\¬d=w.heap.size/\¬d=(w.heap.size+1)/\¬d=(w.heap.size+1+1)/\w1.heap.size<=d by
   have ml:=l.m.l;rw[e]at ml;obtain⟨cs,kb⟩:=aE ml (k:=d) rfl;obtain⟨gg,q,hq⟩:=sH cH zSl ml s e';have lo:=(ml.lt d rfl).1;have ce:=l.m.bm;cases q
   refine⟨hq,kb.frozen,λe=>?_,λe=>?_,λe=>?_,J⟩
   .rw[e]at kb;exact absurd (aH kb l.k0) Ja
   .rw[e]at kb;exact absurd (aH kb l.k1) Ja
   .rw[e]at kb;exact absurd (aH kb l.k2) Ja)
  have af:=zh (λ(X:qw)(l:Se w1 w X Y m b t { C with tn:=C.tn+1,lz:=C.lz.set s (true,m,b,C.tn+1) } { M with tn:=C.tn+1,lz:=C.lz.set s (true,m,b,C.tn+1) } base aP Ls β)=>show qC 120 #[.agg #[qS M.ma M.mn M.mc,qI M.cs,qI M.cw,qI M.ck,qI M.cd,qI M.pc,qS M.ka M.kn M.kc,qS M.fa M.fn M.fc,qS (some$ qR gr 0) M.rn M.rc,qS M.oa M.on M.oc,qI M.md,qI M.bk,qS (some$ qR d 0) M.ln M.lc,qS M.ha M.hn M.hc,qI$ C.tn+1],.agg #[.bool true,qI m,qI b,qI$ C.tn+1]] X (λe w'=>∃g,e=.returned (qS (some$ qR g 0) (slz C.cw)$ slz C.cw)/\Se w1 w w' Y m b t { C with tn:=C.tn+1,lz:=C.lz.set s (true,m,b,C.tn+1) } { M with tn:=C.tn+1,lz:=C.lz.set s (true,m,b,C.tn+1) } base aP Ls β/\∃w4,(Builtin.copy_ #[28,28] 3 #[qS (some$ qR gr f) (M.rn-f)$ M.rc-f,qS (some$ qR g 0) (slz C.cw)$ slz C.cw]).run Tryz.prog w'=.ok (goInt$ slz C.cw) w4/\Se w1 w w4 Y m b t y p base aP Ls β)by
   have aj:aF M.ms=C.ps:=by rw[h.vz.1,h.m.pms,h.e]
   have c3:M.mn<=1048576:=by
    have h1:=h.len;have h2:=congrArg List.length h.e;rw[xH]at h2;omega
   have q:=mL { M with tn:=C.tn+1,lz:=C.lz.set s (true,m,b,C.tn+1) } true m b (C.tn+1) X (l.m.mnd c3) (by show lkc (aF M.ms) M.cs M.cw M.ck M.cd=0;rw[aj,h.vs.1,e2,h.vs.2.2.1,h.vs.2.2.2.1];exact Q.k) (by show 0<M.cs;rw[h.vs.1];exact s5) (by show 0<=pcq (aF M.ms) m b;rw[aj];exact hp) b8;dsimp only at q;rw[a3,ac]at q;apply q.mono;rintro e w' ⟨g,rfl,ho,an⟩;rw[aj,e2]at ho;have ak:=l.bw an;have c0:OB w' aP (qS (some$ qR gr 0) M.rn M.rc) C.rz:=by rw[<-a3];exact ak.m.q.2.1
   obtain⟨w4,P,o4,T4⟩:=aMs (f:=f) c0 3 (some ⟨g,0,none⟩) (M.rn-f) (M.rc-f) (slz C.cw) (slz C.cw) ho.bs J J br;refine⟨g,by rw[e2],ak,w4,P,?_⟩;rw[a0,a2]
   exact ak.mem hw a3 T4 (by show OB w4 aP (qS M.ra M.rn M.rc) _;rw[a3];exact o4))
  have a9:=zh (λ(X:qw)(M':Mn)(C':Cn)(l:Se w1 w X Y m b t C' M' base aP Ls β)(e:((qA M'):Array Value)=#[qS M.ma M.mn M.mc,qI M.cs,qI M.cw,qI M.ck,qI M.cd,qI M.pc,qS M.ka M.kn M.kc,qS M.fa M.fn M.fc,qS (some$ qR gr 0) M.rn M.rc,qS M.oa M.on M.oc,qI M.md,qI M.bk,qS (some$ qR d 0) M.ln M.lc,qS M.ha M.hn M.hc,qI$ C.tn+1])(ez:C'.lz=C.lz.set s (true,m,b,C.tn+1))=>show(X.cell? (qR w.heap.size 0)=some (qS M.ma M.mn M.mc)/\X.cell? (qR w.heap.size 1)=some (qI M.cs)/\X.cell? (qR w.heap.size 2)=some (qI M.cw)/\X.cell? (qR w.heap.size 3)=some (qI M.ck)/\X.cell? (qR w.heap.size 4)=some (qI M.cd)/\X.cell? (qR w.heap.size 5)=some (qI M.pc)/\X.cell? (qR w.heap.size 6)=some (qS M.ka M.kn M.kc)/\X.cell? (qR w.heap.size 7)=some (qS M.fa M.fn M.fc)/\X.cell? (qR w.heap.size 8)=some (qS (some$ qR gr 0) M.rn M.rc)/\X.cell? (qR w.heap.size 9)=some (qS M.oa M.on M.oc)/\X.cell? (qR w.heap.size 10)=some (qI M.md)/\X.cell? (qR w.heap.size 11)=some (qI M.bk)/\X.cell? (qR w.heap.size 12)=some (qS (some$ qR d 0) M.ln M.lc)/\X.cell? (qR w.heap.size 13)=some (qS M.ha M.hn M.hc)/\X.cell? (qR w.heap.size 14)=some (qI$ C.tn+1))/\X.cell? (qR (w.heap.size+1) 2)=some (qS (some$ qR gs os) Y.L.slots.length Y.c2)/\X.cell? (qR gs$ os+s)=some (qI A)/\(X.cell? (qR d$ s*4)=some (.bool true)/\X.cell? (qR d$ s*4+1)=some (qI m)/\X.cell? (qR d$ s*4+2)=some (qI b)/\X.cell? (qR d$ s*4+3)=some (qI$ C.tn+1))by
   have k0:=l.k0;rw[e]at k0;have el:=congrArg (λa=>a[12]?) e;simp at el;obtain⟨q,_⟩:=ae.o X C' M' l el.1 (by rw[el.2.1];omega);rw[ez]at q;have hg:(C.lz.set s (true,m,b,C.tn+1)).getD s zSl=(true,m,b,C.tn+1):=by simp[xB,a6]
   rw[hg]at q
   exact⟨k0.mc,by rw[<-ao];exact l.k1.cell 2,bc.o X l.lo,q 0 J _ rfl,q 1 J _ rfl,q 2 J _ rfl,q 3 J _ rfl⟩)
  have O:=zh a2;have HS:=zh hS;have a5:=zh D;have W:y.kz=C.kz:=by rw[a0]
  have b2:y.ps=C.ps:=by rw[a0]
  have b7:=zh (show((qA p):Array Value)=#[qS M.ma M.mn M.mc,qI M.cs,qI M.cw,qI M.ck,qI M.cd,qI M.pc,qS M.ka M.kn M.kc,qS M.fa M.fn M.fc,qS (some$ qR gr 0) M.rn M.rc,qS M.oa M.on M.oc,qI M.md,qI M.bk,qS (some$ qR d 0) M.ln M.lc,qS M.ha M.hn M.hc,qI$ C.tn+1]/\y.lz=C.lz.set s (true,m,b,C.tn+1)by rw[a2,a0];dsimp only;rw[a3,ac];exact⟨rfl,rfl⟩);have dp:M.rn<=M.rc:=h.q.2.1.bs.2.2.2.2;have cd:(b !=-1)=true:=by simp[K.2]
  have b9:(0:Int)<(M.ln:Int):=jK K.1;have d5:(0:Int)<=(s:Int):=J
  have cw:(s:Int)<(M.ln:Int):=J
  have d6:(s:Int)<(Y.L.slots.length:Int):=J
  have b4:s<M.ln:=J
  have de:0<=C.tn:=Q.t.1;have d1:IntKind.i64.wrap (C.tn+1)=C.tn+1:=by rw[xP,xQ _ J]
  have dh:IntKind.i64.wrap (A-65536)=(f:Int):=by rw[xP,xQ _ J];omega
  have dq:(f:Int)<=(M.rn:Int):=J
  have d3:(f:Int)<(M.rc:Int):=J
  have dc:f<M.rn:=J
  have cy:¬M.rc=f:=J
  have cx:f<M.rc:=J
  have dj:(0:Int)<=(f:Int):=J
  have E:=zh$ xA ac$ xA a3 e8;clear Q K a0 a2 bj bl ab b1 h hb ah hS D be a6 s1 s2 s3 s4 s5 s6 z1 z2 z3 hf hA hs cb b8 e2 ac a3 e8 ao;go_enter Tryz.func175,Tryz.ntmps175
  go_wp2_with (rw[<-HU.o])
  apply ai.o.mono;rintro e X1 ⟨rfl,bf⟩;have a8:=zh$ a5.o.bw bf;clear bf H y0 y1 y2 HU ai a5;have cc:X1.cell? (qR w.heap.size 14)=some (qI C.tn):=by rw[<-E.o.2.2];exact a8.o.k0.cell 14
  have c8:=a8.o.k0.frozen 14;obtain⟨X2,ap⟩:=aN$ X1.setCell ⟨w.heap.size,14,none⟩$ qI$ C.tn+1;have h2:Se w1 w X2 Y m b t { C with tn:=C.tn+1 } { M with tn:=C.tn+1 } base aP Ls β:=by rw[ap];exact a8.o.put 14 (qI$ C.tn+1) rfl λx=>x.stn _
  have c4:X2.cell? (qR w.heap.size 14)=some (qI$ C.tn+1):=h2.k0.cell 14;have bz:X2.cell? (qR w.heap.size 12)=some (qS (some$ qR d 0) M.ln M.lc):=by have q:=h2.k0.cell 12;rw[q];show some (qS M.la M.ln M.lc)=_;rw[E.o.1]
  obtain⟨y0,y1,_⟩:=show X2.cell? ⟨(w.heap.size+1+1),0,none⟩=some (qI m)/\X2.cell? ⟨(w.heap.size+1+1),1,none⟩=some (qI b)/\X2.cell? ⟨(w.heap.size+1+1),2,none⟩=some (qI t)from⟨h2.k2.cell 0,h2.k2.cell 1,h2.k2.cell 2⟩;obtain⟨qq,lf,dt,du,dv,dw⟩:=ae.o X2 _ _ h2 E.o.1 b4;have l0:X2.cell? (qR d$ s*4)=_:=qq 0 J _ rfl;have l1:=qq 1 J _ rfl;have l2:=qq 2 J _ rfl;have l3:=qq 3 J _ rfl;obtain⟨b0,a1⟩:=aN$ (((X2.setCell ⟨d,s*4,none⟩$ .bool true).setCell ⟨d,s*4+1,none⟩$ qI m).setCell ⟨d,s*4+2,none⟩$ qI b).setCell ⟨d,s*4+3,none⟩$ qI$ C.tn+1;have h3:Se w1 w b0 Y m b t { C with tn:=C.tn+1,lz:=C.lz.set s (true,m,b,C.tn+1) } { M with tn:=C.tn+1,lz:=C.lz.set s (true,m,b,C.tn+1) } base aP Ls β:=by rw[a1];exact h2.slot hw E.o.1 s b4 true m b$ C.tn+1
  have a7:=zh h3;have b5:=zh ap;have R:=zh a1;clear h2 ap a1 qq h3 a8;go_wp2_with (first|rw[<-b5.o]|rw[<-R.o])
  clear cc c8 c4 bz y0 y1 lf l0 l1 l2 l3 b5 R;obtain⟨⟨x0,x1,x2,x3,x4,x5,x6,x7,x8,x9,aw,ax,H,ay,az⟩,ys,ya,⟨l0,l1,l2,l3⟩⟩:=a9.o b0 _ _ a7.o (by unfold qA;dsimp only;rw[E.o.2.1,E.o.1]) rfl
  go_region_held3 (λw'=>(w'.cell? (qR w.heap.size 0)=some (qS M.ma M.mn M.mc)/\w'.cell? (qR w.heap.size 1)=some (qI M.cs)/\w'.cell? (qR w.heap.size 2)=some (qI M.cw)/\w'.cell? (qR w.heap.size 3)=some (qI M.ck)/\w'.cell? (qR w.heap.size 4)=some (qI M.cd)/\w'.cell? (qR w.heap.size 5)=some (qI M.pc)/\w'.cell? (qR w.heap.size 6)=some (qS M.ka M.kn M.kc)/\w'.cell? (qR w.heap.size 7)=some (qS M.fa M.fn M.fc)/\w'.cell? (qR w.heap.size 8)=some (qS (some$ qR gr 0) M.rn M.rc)/\w'.cell? (qR w.heap.size 9)=some (qS M.oa M.on M.oc)/\w'.cell? (qR w.heap.size 10)=some (qI M.md)/\w'.cell? (qR w.heap.size 11)=some (qI M.bk)/\w'.cell? (qR w.heap.size 12)=some (qS (some$ qR d 0) M.ln M.lc)/\w'.cell? (qR w.heap.size 13)=some (qS M.ha M.hn M.hc)/\w'.cell? (qR w.heap.size 14)=some (qI$ C.tn+1))/\w'.cell? (qR (w.heap.size+1) 2)=some (qS (some$ qR gs os) Y.L.slots.length Y.c2)/\w'.cell? (qR gs$ os+s)=some (qI A)/\(w'.cell? (qR d$ s*4)=some (.bool true)/\w'.cell? (qR d$ s*4+1)=some (qI m)/\w'.cell? (qR d$ s*4+2)=some (qI b)/\w'.cell? (qR d$ s*4+3)=some (qI$ C.tn+1))) (go_keep)
   (first
     | (go_at_call 120;first
         | with_reducible refine(af.o _ a7.o).mono ?_
         | with_reducible refine(af.o _$ a7.o.bw brf.drew).mono ?_
        rintro e Xc ⟨g,rfl,hc,N,P,he⟩;obtain⟨⟨x0,x1,x2,x3,x4,x5,x6,x7,x8,x9,aw,ax,H,ay,az⟩,ys,ya,⟨l0,l1,l2,l3⟩⟩:=a9.o Xc _ _ hc (by unfold qA;dsimp only;rw[E.o.2.1,E.o.1]) rfl
        obtain⟨⟨v0,v1,v2,v3,v4,v5,v6,v7,v8,v9,cl,co,cq,cr,ct⟩,vs,va,⟨u0,u1,u2,u3⟩⟩:=a9.o N _ _ he b7.o.1 b7.o.2))
  have HE:=zh he;clear x0 x1 x2 x3 x4 x5 x6 x7 x8 x9 aw ax H ay az v0 v1 v2 v3 v4 v5 v6 v7 v8 v9 cl co cq cr ct ys ya vs va l0 l1 l2 l3 u0 u1 u2 u3 he hc P a9 af ae bc a7;have G:=F.o;have B:=ag.o;have hS:=HS.o
 rotate_left
 focus
  have hK:C.lz.length=0\/b=-1:=by
   by_cases q:b=-1
   .exact .inr q
   .exact .inl (xZ.1 λq'=>K ⟨q',q⟩)
  have bu:M.ln=0\/(M.ln≠0/\(b !=-1)=false):=by
   by_cases q:M.ln=0
   .exact .inl q
   .refine .inr ⟨q,?_⟩;rcases hK with hK|hK
    .exact absurd J q
    .simp[hK]
  obtain⟨y,a0⟩:∃y:Cn,y=C:=⟨_,rfl⟩;obtain⟨p,a2⟩:∃p:Mn,p=M:=⟨_,rfl⟩;obtain⟨S,hS⟩:∃S:Int,S=-1:=⟨_,rfl⟩;have F:Zh (S=-1\/(b≠-1/\0<=S/\S<(Y.L.slots.length:Int))):=.inl hS;have ag:=zh (show 0<=fH Y.L (plc C.ps m.toNat) b S/\fH Y.L (plc C.ps m.toNat) b S<=100000 by rw[hS];exact aHu ab hp);have ad:=zh (show { y with md:=m,bk:=b,pc:=fH Y.L (plc C.ps m.toNat) b S+4*t,kz:=y.kz.set 7 (plc C.ps m.toNat).data }=eG C Y.L m b t by rw[a0,hS];unfold eG;rw[if_neg K]);have O:=zh$ xA a0 a2;have HS:=zh hS;have a5:=zh D;clear Q hK K a0 a2 bj bl ab b1 h hb ah hS D;rcases bu with bd|⟨bd,cd⟩
  all_goals
   first
    | have b9:¬(0:Int)<(M.ln:Int):=J
    | have b9:(0:Int)<(M.ln:Int):=J
   go_enter Tryz.func175,Tryz.ntmps175
   obtain⟨N,a1⟩:∃N:World,N=U:=⟨_,rfl⟩;have HE:=zh (show Se w1 w N Y m b t y p base aP Ls β by rw[a1,O.o.1,O.o.2];exact a5.o);have R:=zh$ a1.trans HU.o;rw[<-a1]at H y0 y1 y2;have W:y.kz=C.kz:=by rw[O.o.1]
   have b2:y.ps=C.ps:=by rw[O.o.1]
   have G:=F.o;have B:=ag.o;have hS:=HS.o;clear a1 HU bd
 all_goals
  have e3:y.kz.length=8:=by rw[W];exact c9
  obtain⟨gk,av,ch⟩:∃gk,p.ka=some ⟨gk,0,none⟩/\p.kn=8:=by
   have hl:=kD HE.o.m.k;obtain⟨g',cp,e,_⟩:=World.ownsRow.form HE.o.m.k.1 J;simp only[Value.slice.injEq]at e;exact⟨g',e.1,J⟩
  obtain⟨bp,bq,f0⟩:=show N.cell? ⟨w.heap.size,10,none⟩=some (qI p.md)/\N.cell? ⟨w.heap.size,11,none⟩=some (qI p.bk)/\∀i,N.frozen? ⟨w.heap.size,i,none⟩=false from⟨HE.o.k0.cell 10,HE.o.k0.cell 11,HE.o.k0.frozen⟩;obtain⟨z0,z1,z2⟩:=show N.cell? ⟨(w.heap.size+1+1),0,none⟩=some (qI m)/\N.cell? ⟨(w.heap.size+1+1),1,none⟩=some (qI b)/\N.cell? ⟨(w.heap.size+1+1),2,none⟩=some (qI t)from⟨HE.o.k2.cell 0,HE.o.k2.cell 1,HE.o.k2.cell 2⟩;obtain⟨X4,aq⟩:=aN$ (N.setCell ⟨w.heap.size,10,none⟩$ qI m).setCell ⟨w.heap.size,11,none⟩$ qI b;have h4:Se w1 w X4 Y m b t { y with md:=m,bk:=b } { p with md:=m,bk:=b } base aP Ls β:=by rw[aq];exact(HE.o.put 10 (qI m) rfl λx=>x.smd m).put 11 (qI b) rfl (λx=>x.sbk b)
  obtain⟨Z,hZ⟩:=aN$ fH Y.L (plc C.ps m.toNat) b S;have aa:=zh (λ(X:qw)(l:qY X4 X)=>(lV Y.L Y.a0 Y.c0 Y.xs Y.a2 Y.c2 Y.a5 Y.c5 Y.ts m b t S X ((hl.bw h4.lo).bw l) I.m0 I.m1 I.bb G).mono (λe w' he=>show e=.returned (qI Z)/\Se w1 w w' Y m b t { y with md:=m,bk:=b } { p with md:=m,bk:=b } base aP Ls β/\qY X4 w' from⟨by rw[he.1,hZ,aDk,I.p],h4.bw$ l.trans$ he.2.mono l.size,l.trans$ he.2.mono l.size⟩));have b3:=zh (show { y with md:=m,bk:=b,pc:=Z+4*t,kz:=y.kz.set 7 (plc C.ps m.toNat).data }=eG C Y.L m b t by rw[hZ];exact ad.o);have dn:0<=Z:=by rw[hZ];exact B.1
  have dg:Z<=100000:=by rw[hZ];exact B.2
  have db:t<=200:=jK I.w.2;have dl:IntKind.i64.wrap (4*t)=4*t:=by rw[xP,xQ _ J]
  have df:IntKind.i64.wrap (Z+4*t)=Z+4*t:=by rw[xP,xQ _ J]
  have d2:=xA I.m0 I.m1;have di:=xA I.d.1 I.d.2.1
  have ba:=zh (λ(X:qw)(l:qY w1 X)=>show ∃gp op,Y.a0=some (qR gp op)/\gp<w1.heap.size/\X.cell? (qR gp$ op+m.toNat*4+2)=some (qI (plc C.ps m.toNat).data)by
   obtain⟨gp,op,e,_,_,q2,_⟩:=hl.p.at m.toNat$ jL I.m0 I.m1;rw[I.p]at q2
   exact⟨gp,op,e,xD w1 _ q2,aB l q2⟩)
  have c5:=hl.p.2.1;unfold maxLen at c5;have HC:=zh λ(X:qw)(C':Cn)(M':Mn)(l:Se w1 w X Y m b t C' M' base aP Ls β)=>show(X.cell? (qR (w.heap.size+1) 0)=some (qS Y.a0 Y.xs.length Y.c0)/\X.cell? (qR (w.heap.size+1) 1)=some (qI Y.L.stack)/\X.cell? (qR (w.heap.size+1) 2)=some (qS Y.a2 Y.L.slots.length Y.c2)/\X.cell? (qR (w.heap.size+1) 3)=some (qI Y.L.flash)/\X.cell? (qR (w.heap.size+1) 4)=some (qI Y.L.ram)/\X.cell? (qR (w.heap.size+1) 5)=some (qS Y.a5 Y.ts.length Y.c5))/\X.cell? (qR (w.heap.size+1+1) 0)=some (qI m)/\X.cell? (qR (w.heap.size+1+1) 1)=some (qI b)/\X.cell? (qR (w.heap.size+1+1) 2)=some (qI t)from⟨l.k1.ly6,l.k2.cell 0,l.k2.cell 1,l.k2.cell 2⟩;have b6:=zh aq;have bb:=zh h4;clear h4 aq W b2 hZ G B ad I hS HE hl;generalize (plc C.ps m.toNat).data=dd at *;rw[HS.o]at aa;have d4:¬(w.heap.size+1+1)=w.heap.size:=J
  have d7:¬w.heap.size=(w.heap.size+1+1):=J
  go_wp2_with (first|rw[<-R.o]|rw[<-b6.o])
  obtain⟨⟨l0,l1,l2,l3,l4,l5⟩,bm,bn,bo⟩:=HC.o _ _ _ bb.o;clear bp bq f0 z0 z1 z2 b6;try clear R H y0 y1 y2
  go_region_held3 (λw'=>(w'.cell? (qR (w.heap.size+1) 0)=some (qS Y.a0 Y.xs.length Y.c0)/\w'.cell? (qR (w.heap.size+1) 1)=some (qI Y.L.stack)/\w'.cell? (qR (w.heap.size+1) 2)=some (qS Y.a2 Y.L.slots.length Y.c2)/\w'.cell? (qR (w.heap.size+1) 3)=some (qI Y.L.flash)/\w'.cell? (qR (w.heap.size+1) 4)=some (qI Y.L.ram)/\w'.cell? (qR (w.heap.size+1) 5)=some (qS Y.a5 Y.ts.length Y.c5))/\w'.cell? (qR (w.heap.size+1+1) 0)=some (qI m)/\w'.cell? (qR (w.heap.size+1+1) 1)=some (qI b)/\w'.cell? (qR (w.heap.size+1+1) 2)=some (qI t)) (go_keep)
   (first
     | (go_at_call 123;first
         | with_reducible refine(aa.o _ brf).mono ?_
         | with_reducible refine(aa.o _ brf.drew).mono ?_
        rintro e Xb ⟨rfl,B,an⟩;obtain⟨p5,ck⟩:=show Xb.cell? ⟨w.heap.size,5,none⟩=some (qI p.pc)/\Xb.frozen? ⟨w.heap.size,5,none⟩=false from⟨B.k0.cell 5,B.k0.frozen 5⟩
        obtain⟨⟨l0,l1,l2,l3,l4,l5⟩,bm,bn,bo⟩:=HC.o _ _ _ B))
  obtain⟨X5,ar⟩:=aN$ Xb.setCell ⟨w.heap.size,5,none⟩$ qI$ Z+4*t;have V:Se w1 w X5 Y m b t { y with md:=m,bk:=b,pc:=Z+4*t } { p with md:=m,bk:=b,pc:=Z+4*t } base aP Ls β:=by rw[ar];exact B.put 5 (qI$ Z+4*t) rfl λx=>x.spc$ Z+4*t
  have x6:X5.cell? (qR w.heap.size 6)=some (qS (some$ qR gk 0) 8 p.kc):=by have q:=V.k0.cell 6;rw[q];show some (qS p.ka p.kn p.kc)=_;rw[av,ch]
  obtain⟨gp,op,bh,dx,xd⟩:=ba.o X5 V.lo;have c7:X5.cell? (qR (w.heap.size+1) 0)=some (qS (some$ qR gp op) Y.xs.length Y.c0):=by rw[<-bh];exact V.k1.cell 0
  have y0:X5.cell? (qR (w.heap.size+1+1) 0)=some (qI m):=V.k2.cell 0
  obtain⟨⟨u,x7⟩,xf,a4,cj⟩:(∃u,X5.cell? ⟨gk,7,none⟩=some u)/\(∀i,X5.frozen? ⟨gk,i,none⟩=false)/\(gk≠w.heap.size/\gk≠(w.heap.size+1)/\gk≠(w.heap.size+1+1))/\w1.heap.size<=gk:=by
   have am:OI X5 aP (qS (some$ qR gk 0) p.kn p.kc) y.kz:=by rw[<-av];exact V.m.k
   obtain⟨cs,kb⟩:=aE am.1 (k:=gk) rfl;have lo:=(am.lt gk rfl).1;have ce:=V.m.bm;refine⟨⟨_,am.is.at 7 J⟩,kb.frozen,⟨λe=>?_,λe=>?_,λe=>?_⟩,J⟩
   .rw[e]at kb;exact absurd (aH kb V.k0) Ja
   .rw[e]at kb;exact absurd (aH kb V.k1) Ja
   .rw[e]at kb;exact absurd (aH kb V.k2) Ja
  have d9:¬gk=w.heap.size:=a4.1;have dr:¬w.heap.size=gk:=λe=>a4.1 e.symm;have d8:¬gk=(w.heap.size+1):=a4.2.1;have dk:¬(w.heap.size+1)=gk:=λe=>a4.2.1 e.symm;have ah:¬gk=(w.heap.size+1+1):=a4.2.2;have da:¬(w.heap.size+1+1)=gk:=λe=>a4.2.2 e.symm;have d0:¬gk=gp:=J
  have cu:¬gp=gk:=J
  obtain⟨X6,au⟩:=aN$ (X5.setCell ⟨gk,7,none⟩$ qI dd).drew;obtain⟨M6,bi⟩:∃M6:Mn,M6={ p with md:=m,bk:=b,pc:=Z+4*t,kz:=y.kz.set 7 dd }:=⟨_,rfl⟩
  have h6:Se w1 w X6 Y m b t (eG C Y.L m b t) M6 base aP Ls β:=by
   rw[<-b3.o,au,bi];exact(V.reg hw av 7 (by show 7<p.kn;omega) dd Jh).bw brf.drew
  obtain⟨x0,x1,x2,x3,x4,x5,ee,ef,x8,x9,aw,ax,H,ay,az⟩:=h6.k0.mc;have KR:=h6.k3;unfold z15 at KR;obtain⟨r0,r1,r2,r3,r4,r5,r6,r7,r8,r9,dz,ea,eb,ec,ed⟩:=KR.mc;have rf:=KR.frozen;have HF:Zh (LeP w1 w base aP Ls β Y C m b t (.returned$ .agg$ qA M6)$ stM X6 (w.heap.size+1+1+1) M6):=⟨M6,rfl,h6.m.tm$ eZ h6.k3$ cL _ _ _ _ _ _ _ _ _ _ _ _ _ _ _ _ _,aG h6.lo (cL _ _ _ _ _ _ _ _ _ _ _ _ _ _ _ _ _) (λj hj=>jK h6.l) h6.lo.size,aM4 h6.tg (cL _ _ _ _ _ _ _ _ _ _ _ _ _ _ _ _ _) J⟩;have c1:=zh h6.k3;have ca:=zh ar;have bv:=zh au;clear V h6 ar au bi bb a4 cj bh an B l0 l1 l2 l3 l4 l5 bm bn bo HC aa ba b3 KR;go_wp2_with (rw[<-ca.o])
  clear p5 ck
  go_region_held3 (λw'=>w'.cell? (qR w.heap.size 6)=some (qS (some$ qR gk 0) 8 p.kc)/\w'.cell? (qR (w.heap.size+1) 0)=some (qS (some$ qR gp op) Y.xs.length Y.c0)/\w'.cell? (qR (w.heap.size+1+1) 0)=some (qI m)/\w'.cell? (qR gp$ op+m.toNat*4+2)=some (qI dd)) (go_keep) (fail)
  rw[<-bv.o];clear x6 x7 c7 y0 xd xf;go_wp2;exact aR0 c1.o _ _ _ _ _ _ _ _ _ _ _ _ _ _ _ _ _ rfl HF.o
