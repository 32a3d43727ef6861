import Derived.Test.YtncccmeomcaabaaGreatC18
set_option linter.all false
set_option maxHeartbeats 16000000
namespace Go.Proofs.YtncccmeomcaabaaGreat
open Go.RowKit Classical
open Go.Proofs.Tryz
set_option maxRecDepth 100000
variable {C:Cn}{M N:Mn}{S S':Nat->Prop}{lo n:Nat}
theorem aDc (w1:qw)(base mid:Nat)(Ls:List (PMod×Mb))(β:Nat->Nat)(Y:Lyb)(C:Cn)(M:Mn)(m b t:Int)(w:qw)(h:MxO w base mid C M Ls β)(hb:qY w1 w)(hw:w1.heap.size<=base)(hl:Y.T w1)(hv:Cv C Y.L)(ht:C.tn<1000000000)(hp:tgk C.ps m b t):
 qC 62 #[.agg (qA M),.agg (qL Y.L Y.a0 Y.xs.length Y.c0 Y.a2 Y.L.slots.length Y.c2 Y.a5 Y.ts.length Y.c5),.agg (qT m b t)] w (LeP w1 w base mid Ls β Y C m b t):=by
 obtain ⟨U,hU⟩:=eqx ((((w.alloc (.cells (qA M) 43)).alloc (.cells (qL Y.L Y.a0 Y.xs.length Y.c0 Y.a2 Y.L.slots.length Y.c2 Y.a5 Y.ts.length Y.c5) 71)).alloc (.cells (qT m b t) 58)).alloc (.cells qZ 43));have bU:qY w U:=by rw [hU];exact ((bal.alloc (by simp) _).alloc (by simp;omega) _).alloc (by simp;omega) _
 have hS0:Se w1 w U Y m b t C M base mid Ls β:=by
  refine ⟨bD bU,hb.trans (bU.mono hb.size),hb.size,?_,?_,?_,?_,h.bw bU⟩
  .rw [hU];exact (((Blk.new _ _ _).alloc _).alloc _).alloc _
  .rw [hU];have:=((Blk.new (w.alloc (.cells (qA M) 43)) (qL Y.L Y.a0 Y.xs.length Y.c0 Y.a2 Y.L.slots.length Y.c2 Y.a5 Y.ts.length Y.c5) 71).alloc (.cells (qT m b t) 58)).alloc (.cells qZ 43);simpa using this
  .rw [hU];have:=(Blk.new ((w.alloc (.cells (qA M) 43)).alloc (.cells (qL Y.L Y.a0 Y.xs.length Y.c0 Y.a2 Y.L.slots.length Y.c2 Y.a5 Y.ts.length Y.c5) 71)) (qT m b t) 58).alloc (.cells qZ 43);simpa using this
  .rw [hU];have:=Blk.new (((w.alloc (.cells (qA M) 43)).alloc (.cells (qL Y.L Y.a0 Y.xs.length Y.c0 Y.a2 Y.L.slots.length Y.c2 Y.a5 Y.ts.length Y.c5) 71)).alloc (.cells (qT m b t) 58)) z15 43;simpa [z15] using this
 obtain ⟨_,hn4,hcs,hlz,hLk⟩:=hv.cf;obtain ⟨hp,t0,t1⟩:=hp;have KN:=mS (s:=0) hl hLk hp;have hk8:=hv.g;have hlen:=gY h.l;have x12:U.cell? (qR w.heap.size 12)=some (qS M.la M.ln M.lc):=hS0.k0.cell 12;obtain ⟨y0,y1,y2⟩:=show U.cell? ⟨(w.heap.size+1+1),0,none⟩=some (qI m)/\U.cell? ⟨(w.heap.size+1+1),1,none⟩=some (qI b)/\U.cell? ⟨(w.heap.size+1+1),2,none⟩=some (qI t) from ⟨hS0.k2.cell 0,hS0.k2.cell 1,hS0.k2.cell 2⟩;have HU:=zh hU;clear hU bU;by_cases K:C.lz.length≠0/\b≠-1
 focus
  have hb0:0<=b:=by have:=KN.bb;have:=K.2;omega
  have hsq:=mN (xs:=C.lz) m b K.1;obtain ⟨s1,s2,s3,s4,s5,s6⟩:=hv.slot hsq;obtain ⟨z1,z2,z3⟩:=fK hv.cf.1.1 hv.cf.1.2;have hsz0:slz C.cw≠0:=by have:=hv.cf.1.1;omega
  have hqs:QS bY zSl U M.la M.ln M.lc C.lz:=tB bO hS0.m.l
  obtain ⟨gl,hgl⟩:∃ gl,M.la=some ⟨gl,0,none⟩:=by
   obtain ⟨g',cp,e,_⟩:=World.ownsRow.form h.l (by have:=K.1;omega);simp only [Value.slice.injEq] at e;exact ⟨g',e.1⟩
  have hrn:=eG h.q.2.1;obtain ⟨gr,hgr⟩:∃ gr,M.ra=some ⟨gr,0,none⟩:=aC2 h.q.2.1;have e8:=h.vs.2.2.2.2.2.2.2;have e2:=h.vs.2.1;obtain ⟨gs,os,ea2,_⟩:=hl.s.2.2.2.1 (by omega);have hsx:=hl.s.2.1;unfold maxLen at hsx;obtain ⟨s,hs⟩:=eqx (slq C.lz m b);rw [<- hs] at hsq s1 s2 s3 s4 s6;obtain ⟨A,hA⟩:=eqx (Y.L.slots.getD s 0);rw [<- hA] at s1 s2 s3 s6;obtain ⟨f,hf⟩:=eqx ((A-65536).toNat);rw [<- hf] at s2;obtain ⟨C1,hC1⟩:∃ C1:Cn,C1={ C with tn:=C.tn+1,lz:=C.lz.set s (true,m,b,C.tn+1),rz:=ovr C.rz f (bkb C.ps C.cw m b) }:=⟨_,rfl⟩;obtain ⟨M1,hM1⟩:∃ M1:Mn,M1={ M with tn:=C.tn+1,lz:=C.lz.set s (true,m,b,C.tn+1),rz:=ovr C.rz f (bkb C.ps C.cw m b) }:=⟨_,rfl⟩;obtain ⟨S,hS⟩:∃ S:Int,S=((s:Nat):Int):=⟨_,rfl⟩;have HSfit:Zh (S=-1\/(b≠-1/\0<=S/\S<(Y.L.slots.length:Int))):=.inr ⟨K.2,by omega,by omega⟩
  have HSb:=zh (show 0<=dY Y.L (plc C.ps m.toNat) b S/\dY Y.L (plc C.ps m.toNat) b S<=100000 by
   unfold dY;rw [if_neg K.2,if_neg (by omega),hS,xY,<- hA]
   omega)
  have HFN:=zh (show { C1 with md:=m,bk:=b,pc:=dY Y.L (plc C.ps m.toNat) b S+4*t,kz:=C1.kz.set 7 (plc C.ps m.toNat).data }=gJ C Y.L m b t by rw [hC1,hS,hf,hA,hs];unfold gJ;rw [if_pos K]);have HSL:=zh (aE4 M.la M.ln M.lc C.lz m b t U hqs (aMn hv.s));rw [<- hs] at HSL
  have HSS:=zh (fun (X:qw) (hX:qY w1 X)=>show X.cell? (qR gs (os+s))=some (qI A) from by
   obtain ⟨gs',os',ea',hc'⟩:=(hl.bw hX).s.2.2.2.1 (by omega);rw [ea2] at ea';cases ea'
   rw [hA]
   exact hc' s (by omega))
  have HGL:=zh (fun (X:qw) (C':Cn) (M':Mn) (hX:Se w1 w X Y m b t C' M' base mid Ls β) (e:M'.la=some (qR gl 0)) (e':s<M'.ln)=>show (∀ j,j<4->∀ u,(bY (C'.lz.getD s zSl))[j]?=some u->X.cell? (qR gl (s*4+j))=some u)/\(∀ i,X.frozen? (qR gl i)=false)/\¬ gl=w.heap.size/\¬ gl=(w.heap.size+1)/\¬ gl=(w.heap.size+1+1)/\w1.heap.size<=gl from by
   have ml:=hX.m.l;rw [e] at ml;obtain ⟨cs,kb⟩:=aD ml (k:=gl) rfl;obtain ⟨gg,q,hq⟩:=oL bO zSl ml s e';have lo:=(ml.lt gl rfl).1;have bm:=hX.m.bm;cases q
   refine ⟨hq,kb.frozen,fun e=>?_,fun e=>?_,fun e=>?_,by omega⟩
   .rw [e] at kb;exact absurd (aH kb hX.k0) (by decide)
   .rw [e] at kb;exact absurd (aH kb hX.k1) (by decide)
   .rw [e] at kb;exact absurd (aH kb hX.k2) (by decide))
  have HSB:=zh (fun (X:qw) (hX:Se w1 w X Y m b t { C with tn:=C.tn+1,lz:=C.lz.set s (true,m,b,C.tn+1) } { M with tn:=C.tn+1,lz:=C.lz.set s (true,m,b,C.tn+1) } base mid Ls β)=>show qC 118 #[.agg #[qS M.ma M.mn M.mc,qI M.cs,qI M.cw,qI M.ck,qI M.cd,qI M.pc,qS M.ka M.kn M.kc,qS M.fa M.fn M.fc,qS (some (qR gr 0)) M.rn M.rc,qS M.oa M.on M.oc,qI M.md,qI M.bk,qS (some (qR gl 0)) M.ln M.lc,qS M.ha M.hn M.hc,qI (C.tn+1)],.agg #[.bool true,qI m,qI b,qI (C.tn+1)]] X (fun e w'=>∃ g,e=.returned (qS (some (qR g 0)) (slz C.cw) (slz C.cw))/\Se w1 w w' Y m b t { C with tn:=C.tn+1,lz:=C.lz.set s (true,m,b,C.tn+1) } { M with tn:=C.tn+1,lz:=C.lz.set s (true,m,b,C.tn+1) } base mid Ls β/\∃ w4,(Builtin.copy_ #[28,28] 3 #[qS (some (qR gr f)) (M.rn-f) (M.rc-f),qS (some (qR g 0)) (slz C.cw) (slz C.cw)]).run prog w'=.ok (goInt (slz C.cw)) w4/\Se w1 w w4 Y m b t C1 M1 base mid Ls β) from by
   have hps:aE M.ms=C.ps:=by rw [h.vz.1,h.m.pms,h.e]
   have hmn:M.mn<=1048576:=by
    have h1:=h.len;have h2:=congrArg List.length h.e;rw [xH] at h2;omega
   have q:=jU { M with tn:=C.tn+1,lz:=C.lz.set s (true,m,b,C.tn+1) } true m b (C.tn+1) X (hX.m.mnd hmn) (by show lkc (aE M.ms) M.cs M.cw M.ck M.cd=0;rw [hps,h.vs.1,e2,h.vs.2.2.1,h.vs.2.2.2.1];exact hv.k) (by show 0<M.cs;rw [h.vs.1];exact s5) (by show 0<=pcq (aE M.ms) m b;rw [hps];exact hp) hb0;dsimp only at q;rw [hgr,hgl] at q;refine q.mono ?_;rintro e w' ⟨g,rfl,ho,hbb⟩;rw [hps,e2] at ho;have hX':=hX.bw hbb;have hob:OB w' mid (qS (some (qR gr 0)) M.rn M.rc) C.rz:=by rw [<- hgr];exact hX'.m.q.2.1
   obtain ⟨w4,hrun,o4,T4⟩:=aI6 (f:=f) hob 3 (some ⟨g,0,none⟩) (M.rn-f) (M.rc-f) (slz C.cw) (slz C.cw) ho.bs (by omega) (by omega) hsz0;refine ⟨g,by rw [e2],hX',w4,hrun,?_⟩;rw [hC1,hM1]
   exact hX'.mem hw hgr T4 (by show OB w4 mid (qS M.ra M.rn M.rc) _;rw [hgr];exact o4))
  have HCC:=zh (fun (X:qw) (M':Mn) (C':Cn) (hX:Se w1 w X Y m b t C' M' base mid Ls β) (e:((qA M'):Array Value)=#[qS M.ma M.mn M.mc,qI M.cs,qI M.cw,qI M.ck,qI M.cd,qI M.pc,qS M.ka M.kn M.kc,qS M.fa M.fn M.fc,qS (some (qR gr 0)) M.rn M.rc,qS M.oa M.on M.oc,qI M.md,qI M.bk,qS (some (qR gl 0)) M.ln M.lc,qS M.ha M.hn M.hc,qI (C.tn+1)]) (ez:C'.lz=C.lz.set s (true,m,b,C.tn+1))=>show (X.cell? (qR w.heap.size 0)=some (qS M.ma M.mn M.mc)/\X.cell? (qR w.heap.size 1)=some (qI M.cs)/\X.cell? (qR w.heap.size 2)=some (qI M.cw)/\X.cell? (qR w.heap.size 3)=some (qI M.ck)/\X.cell? (qR w.heap.size 4)=some (qI M.cd)/\X.cell? (qR w.heap.size 5)=some (qI M.pc)/\X.cell? (qR w.heap.size 6)=some (qS M.ka M.kn M.kc)/\X.cell? (qR w.heap.size 7)=some (qS M.fa M.fn M.fc)/\X.cell? (qR w.heap.size 8)=some (qS (some (qR gr 0)) M.rn M.rc)/\X.cell? (qR w.heap.size 9)=some (qS M.oa M.on M.oc)/\X.cell? (qR w.heap.size 10)=some (qI M.md)/\X.cell? (qR w.heap.size 11)=some (qI M.bk)/\X.cell? (qR w.heap.size 12)=some (qS (some (qR gl 0)) M.ln M.lc)/\X.cell? (qR w.heap.size 13)=some (qS M.ha M.hn M.hc)/\X.cell? (qR w.heap.size 14)=some (qI (C.tn+1)))/\X.cell? (qR (w.heap.size+1) 2)=some (qS (some (qR gs os)) Y.L.slots.length Y.c2)/\X.cell? (qR gs (os+s))=some (qI A)/\(X.cell? (qR gl (s*4))=some (.bool true)/\X.cell? (qR gl (s*4+1))=some (qI m)/\X.cell? (qR gl (s*4+2))=some (qI b)/\X.cell? (qR gl (s*4+3))=some (qI (C.tn+1))) from by
   have k0:=hX.k0;rw [e] at k0;have el:=congrArg (fun a=>a[12]?) e;simp at el;obtain ⟨q,_⟩:=HGL.o X C' M' hX el.1 (by rw [el.2.1];omega);rw [ez] at q;have hg:(C.lz.set s (true,m,b,C.tn+1)).getD s zSl=(true,m,b,C.tn+1):=by simp [xB,hsq]
   rw [hg] at q
   exact ⟨k0.mc,by rw [<- ea2];exact hX.k1.cell 2,HSS.o X hX.lo,q 0 (by omega) _ rfl,q 1 (by omega) _ rfl,q 2 (by omega) _ rfl,q 3 (by omega) _ rfl⟩)
  have HM1:=zh hM1;have HS:=zh hS;have HS0:=zh hS0;have hC1k:C1.kz=C.kz:=by rw [hC1]
  have hC1p:C1.ps=C.ps:=by rw [hC1]
  have HEM:=zh (show ((qA M1):Array Value)=#[qS M.ma M.mn M.mc,qI M.cs,qI M.cw,qI M.ck,qI M.cd,qI M.pc,qS M.ka M.kn M.kc,qS M.fa M.fn M.fc,qS (some (qR gr 0)) M.rn M.rc,qS M.oa M.on M.oc,qI M.md,qI M.bk,qS (some (qR gl 0)) M.ln M.lc,qS M.ha M.hn M.hc,qI (C.tn+1)]/\C1.lz=C.lz.set s (true,m,b,C.tn+1) by rw [hM1,hC1];dsimp only;rw [hgr,hgl];exact ⟨rfl,rfl⟩);have hrc:M.rn<=M.rc:=h.q.2.1.bs.2.2.2.2;have hc2:(b !=-1)=true:=by simp [K.2]
  have hc3:(0:Int)<(M.ln:Int):=by have:=K.1;omega
  have hs0:(0:Int)<=(s:Int):=by omega
  have hs1:(s:Int)<(M.ln:Int):=by omega
  have hs2:(s:Int)<(Y.L.slots.length:Int):=by omega
  have hsl:s<M.ln:=by omega
  have ht0:0<=C.tn:=hv.t.1;have hwt:IntKind.i64.wrap (C.tn+1)=C.tn+1:=by rw [xP,xQ _ (by omega)]
  have hwf:IntKind.i64.wrap (A-65536)=(f:Int):=by rw [xP,xQ _ (by omega)];omega
  have hfr:(f:Int)<=(M.rn:Int):=by omega
  have hfl:(f:Int)<(M.rc:Int):=by omega
  have hfn:f<M.rn:=by omega
  have hfe:¬ M.rc=f:=by omega
  have hfm:f<M.rc:=by omega
  have hf0:(0:Int)<=(f:Int):=by omega
  have HGG:=zh (xA hgl (xA hgr e8));clear hv K hC1 hM1 hcs hlz hLk hlen h hb hn4 hS hS0 hqs hsq s1 s2 s3 s4 s5 s6 z1 z2 z3 hf hA hs hrn hb0 e2 hgl hgr e8 ea2;go_enter func62,ntmps62
  go_wp2_with (rw [<- HU.o])
  refine HSL.o.mono ?_;rintro e X1 ⟨rfl,hb1⟩;have HE1:=zh (HS0.o.bw hb1);clear hb1 x12 y0 y1 y2 HU HSL HS0;have a14:X1.cell? (qR w.heap.size 14)=some (qI C.tn):=by rw [<- HGG.o.2.2];exact HE1.o.k0.cell 14
  have f14:=HE1.o.k0.frozen 14;obtain ⟨X2,hX2⟩:=eqx (X1.setCell ⟨w.heap.size,14,none⟩ (qI (C.tn+1)));have h2:Se w1 w X2 Y m b t { C with tn:=C.tn+1 } { M with tn:=C.tn+1 } base mid Ls β:=by rw [hX2];exact HE1.o.put 14 (qI (C.tn+1)) rfl (fun x=>x.stn _)
  have b14:X2.cell? (qR w.heap.size 14)=some (qI (C.tn+1)):=h2.k0.cell 14;have b12:X2.cell? (qR w.heap.size 12)=some (qS (some (qR gl 0)) M.ln M.lc):=by have q:=h2.k0.cell 12;rw [q];show some (qS M.la M.ln M.lc)=_;rw [HGG.o.1]
  obtain ⟨y0,y1,_⟩:=show X2.cell? ⟨(w.heap.size+1+1),0,none⟩=some (qI m)/\X2.cell? ⟨(w.heap.size+1+1),1,none⟩=some (qI b)/\X2.cell? ⟨(w.heap.size+1+1),2,none⟩=some (qI t) from ⟨h2.k2.cell 0,h2.k2.cell 1,h2.k2.cell 2⟩;obtain ⟨qq,lf,hd1,hd2,hd3,hd4⟩:=HGL.o X2 _ _ h2 HGG.o.1 hsl;have l0:X2.cell? (qR gl (s*4))=_:=qq 0 (by omega) _ rfl;have l1:=qq 1 (by omega) _ rfl;have l2:=qq 2 (by omega) _ rfl;have l3:=qq 3 (by omega) _ rfl;obtain ⟨X3',hX3⟩:=eqx ((((X2.setCell ⟨gl,s*4,none⟩ (.bool true)).setCell ⟨gl,s*4+1,none⟩ (qI m)).setCell ⟨gl,s*4+2,none⟩ (qI b)).setCell ⟨gl,s*4+3,none⟩ (qI (C.tn+1)));have h3:Se w1 w X3' Y m b t { C with tn:=C.tn+1,lz:=C.lz.set s (true,m,b,C.tn+1) } { M with tn:=C.tn+1,lz:=C.lz.set s (true,m,b,C.tn+1) } base mid Ls β:=by rw [hX3];exact h2.slot hw HGG.o.1 s hsl true m b (C.tn+1)
  have HE3:=zh h3;have HX2:=zh hX2;have HX3:=zh hX3;clear h2 hX2 hX3 qq h3 HE1;go_wp2_with (first|rw [<- HX2.o]|rw [<- HX3.o])
  clear a14 f14 b14 b12 y0 y1 lf l0 l1 l2 l3 HX2 HX3;obtain ⟨⟨x0,x1,x2,x3,x4,x5,x6,x7,x8,x9,x10,x11,x12,x13,x14⟩,ys,ya,⟨l0,l1,l2,l3⟩⟩:=HCC.o X3' _ _ HE3.o (by unfold qA;dsimp only;rw [HGG.o.2.1,HGG.o.1]) rfl
  go_region_held3 (fun w'=>(w'.cell? (qR w.heap.size 0)=some (qS M.ma M.mn M.mc)/\w'.cell? (qR w.heap.size 1)=some (qI M.cs)/\w'.cell? (qR w.heap.size 2)=some (qI M.cw)/\w'.cell? (qR w.heap.size 3)=some (qI M.ck)/\w'.cell? (qR w.heap.size 4)=some (qI M.cd)/\w'.cell? (qR w.heap.size 5)=some (qI M.pc)/\w'.cell? (qR w.heap.size 6)=some (qS M.ka M.kn M.kc)/\w'.cell? (qR w.heap.size 7)=some (qS M.fa M.fn M.fc)/\w'.cell? (qR w.heap.size 8)=some (qS (some (qR gr 0)) M.rn M.rc)/\w'.cell? (qR w.heap.size 9)=some (qS M.oa M.on M.oc)/\w'.cell? (qR w.heap.size 10)=some (qI M.md)/\w'.cell? (qR w.heap.size 11)=some (qI M.bk)/\w'.cell? (qR w.heap.size 12)=some (qS (some (qR gl 0)) M.ln M.lc)/\w'.cell? (qR w.heap.size 13)=some (qS M.ha M.hn M.hc)/\w'.cell? (qR w.heap.size 14)=some (qI (C.tn+1)))/\w'.cell? (qR (w.heap.size+1) 2)=some (qS (some (qR gs os)) Y.L.slots.length Y.c2)/\w'.cell? (qR gs (os+s))=some (qI A)/\(w'.cell? (qR gl (s*4))=some (.bool true)/\w'.cell? (qR gl (s*4+1))=some (qI m)/\w'.cell? (qR gl (s*4+2))=some (qI b)/\w'.cell? (qR gl (s*4+3))=some (qI (C.tn+1)))) (go_keep)
   (first
     | (go_at_call 118;first
         | with_reducible refine (HSB.o _ HE3.o).mono ?_
         | with_reducible refine (HSB.o _ (HE3.o.bw brf.drew)).mono ?_
        rintro e Xc ⟨g,rfl,hc,X3,hrun,he⟩;obtain ⟨⟨x0,x1,x2,x3,x4,x5,x6,x7,x8,x9,x10,x11,x12,x13,x14⟩,ys,ya,⟨l0,l1,l2,l3⟩⟩:=HCC.o Xc _ _ hc (by unfold qA;dsimp only;rw [HGG.o.2.1,HGG.o.1]) rfl
        obtain ⟨⟨v0,v1,v2,v3,v4,v5,v6,v7,v8,v9,v10,v11,v12,v13,v14⟩,vs,va,⟨u0,u1,u2,u3⟩⟩:=HCC.o X3 _ _ he HEM.o.1 HEM.o.2))
  have HE:=zh he;clear x0 x1 x2 x3 x4 x5 x6 x7 x8 x9 x10 x11 x12 x13 x14 v0 v1 v2 v3 v4 v5 v6 v7 v8 v9 v10 v11 v12 v13 v14 ys ya vs va l0 l1 l2 l3 u0 u1 u2 u3 he hc hrun HCC HSB HGL HSS HE3;have hSfit:=HSfit.o;have hSb:=HSb.o;have hS:=HS.o
 rotate_left
 focus
  have hK:C.lz.length=0\/b=-1:=by
   by_cases q:b=-1
   .exact .inr q
   .exact .inl (xZ.1 (fun q'=>K ⟨q',q⟩))
  have hcc:M.ln=0\/(M.ln≠0/\(b !=-1)=false):=by
   by_cases q:M.ln=0
   .exact .inl q
   .refine .inr ⟨q,?_⟩;rcases hK with hK|hK
    .exact absurd (by omega) q
    .simp [hK]
  obtain ⟨C1,hC1⟩:∃ C1:Cn,C1=C:=⟨_,rfl⟩;obtain ⟨M1,hM1⟩:∃ M1:Mn,M1=M:=⟨_,rfl⟩;obtain ⟨S,hS⟩:∃ S:Int,S=-1:=⟨_,rfl⟩;have HSfit:Zh (S=-1\/(b≠-1/\0<=S/\S<(Y.L.slots.length:Int))):=.inl hS;have HSb:=zh (show 0<=dY Y.L (plc C.ps m.toNat) b S/\dY Y.L (plc C.ps m.toNat) b S<=100000 by rw [hS];exact aEo hLk hp);have HFN:=zh (show { C1 with md:=m,bk:=b,pc:=dY Y.L (plc C.ps m.toNat) b S+4*t,kz:=C1.kz.set 7 (plc C.ps m.toNat).data }=gJ C Y.L m b t by rw [hC1,hS];unfold gJ;rw [if_neg K]);have HM1:=zh (xA hC1 hM1);have HS:=zh hS;have HS0:=zh hS0;clear hv hK K hC1 hM1 hcs hlz hLk hlen h hb hn4 hS hS0;rcases hcc with hc1|⟨hc1,hc2⟩
  all_goals
   first
    | have hc3:¬ (0:Int)<(M.ln:Int):=by omega
    | have hc3:(0:Int)<(M.ln:Int):=by omega
   go_enter func62,ntmps62
   obtain ⟨X3,hX3⟩:∃ X3:World,X3=U:=⟨_,rfl⟩;have HE:=zh (show Se w1 w X3 Y m b t C1 M1 base mid Ls β by rw [hX3,HM1.o.1,HM1.o.2];exact HS0.o);have HX3:=zh (hX3.trans HU.o);rw [<- hX3] at x12 y0 y1 y2;have hC1k:C1.kz=C.kz:=by rw [HM1.o.1]
   have hC1p:C1.ps=C.ps:=by rw [HM1.o.1]
   have hSfit:=HSfit.o;have hSb:=HSb.o;have hS:=HS.o;clear hX3 HU hc1
 all_goals
  have e3:C1.kz.length=8:=by rw [hC1k];exact hk8
  obtain ⟨gk,hgk,hgkn⟩:∃ gk,M1.ka=some ⟨gk,0,none⟩/\M1.kn=8:=by
   have hl:=oK HE.o.m.k;obtain ⟨g',cp,e,_⟩:=World.ownsRow.form HE.o.m.k.1 (by omega);simp only [Value.slice.injEq] at e;exact ⟨g',e.1,by omega⟩
  obtain ⟨a10,a11,f0⟩:=show X3.cell? ⟨w.heap.size,10,none⟩=some (qI M1.md)/\X3.cell? ⟨w.heap.size,11,none⟩=some (qI M1.bk)/\∀ i,X3.frozen? ⟨w.heap.size,i,none⟩=false from ⟨HE.o.k0.cell 10,HE.o.k0.cell 11,HE.o.k0.frozen⟩;obtain ⟨z0,z1,z2⟩:=show X3.cell? ⟨(w.heap.size+1+1),0,none⟩=some (qI m)/\X3.cell? ⟨(w.heap.size+1+1),1,none⟩=some (qI b)/\X3.cell? ⟨(w.heap.size+1+1),2,none⟩=some (qI t) from ⟨HE.o.k2.cell 0,HE.o.k2.cell 1,HE.o.k2.cell 2⟩;obtain ⟨X4,hX4⟩:=eqx ((X3.setCell ⟨w.heap.size,10,none⟩ (qI m)).setCell ⟨w.heap.size,11,none⟩ (qI b));have h4:Se w1 w X4 Y m b t { C1 with md:=m,bk:=b } { M1 with md:=m,bk:=b } base mid Ls β:=by rw [hX4];exact (HE.o.put 10 (qI m) rfl (fun x=>x.smd m)).put 11 (qI b) rfl (fun x=>x.sbk b)
  obtain ⟨Z,hZ⟩:=eqx (dY Y.L (plc C.ps m.toNat) b S);have HOR:=zh (fun (X:qw) (hX:qY X4 X)=>(jJ Y.L Y.a0 Y.c0 Y.xs Y.a2 Y.c2 Y.a5 Y.c5 Y.ts m b t S X ((hl.bw h4.lo).bw hX) KN.m0 KN.m1 KN.bb hSfit).mono (fun e w' he=>show e=.returned (qI Z)/\Se w1 w w' Y m b t { C1 with md:=m,bk:=b } { M1 with md:=m,bk:=b } base mid Ls β/\qY X4 w' from ⟨by rw [he.1,hZ,aA0,KN.p],h4.bw (hX.trans (he.2.mono hX.size)),hX.trans (he.2.mono hX.size)⟩));have HFN2:=zh (show { C1 with md:=m,bk:=b,pc:=Z+4*t,kz:=C1.kz.set 7 (plc C.ps m.toNat).data }=gJ C Y.L m b t by rw [hZ];exact HFN.o);have hz0:0<=Z:=by rw [hZ];exact hSb.1
  have hz1:Z<=100000:=by rw [hZ];exact hSb.2
  have ht2:t<=200:=by have:=KN.w.2;omega
  have hw1:IntKind.i64.wrap (4*t)=4*t:=by rw [xP,xQ _ (by omega)]
  have hw2:IntKind.i64.wrap (Z+4*t)=Z+4*t:=by rw [xP,xQ _ (by omega)]
  have hmm:=xA KN.m0 KN.m1;have hdd:=xA KN.d.1 KN.d.2.1
  have HPC:=zh (fun (X:qw) (hX:qY w1 X)=>show ∃ gp op,Y.a0=some (qR gp op)/\gp<w1.heap.size/\X.cell? (qR gp (op+m.toNat*4+2))=some (qI (plc C.ps m.toNat).data) from by
   obtain ⟨gp,op,e,_,_,q2,_⟩:=hl.p.at m.toNat (by have:=KN.m0;have:=KN.m1;omega);rw [KN.p] at q2
   exact ⟨gp,op,e,xD w1 _ q2,aB hX q2⟩)
  have hax:=hl.p.2.1;unfold maxLen at hax;have HC:=zh (fun (X:qw) (C':Cn) (M':Mn) (hX:Se w1 w X Y m b t C' M' base mid Ls β)=>show (X.cell? (qR (w.heap.size+1) 0)=some (qS Y.a0 Y.xs.length Y.c0)/\X.cell? (qR (w.heap.size+1) 1)=some (qI Y.L.stack)/\X.cell? (qR (w.heap.size+1) 2)=some (qS Y.a2 Y.L.slots.length Y.c2)/\X.cell? (qR (w.heap.size+1) 3)=some (qI Y.L.flash)/\X.cell? (qR (w.heap.size+1) 4)=some (qI Y.L.ram)/\X.cell? (qR (w.heap.size+1) 5)=some (qS Y.a5 Y.ts.length Y.c5))/\X.cell? (qR (w.heap.size+1+1) 0)=some (qI m)/\X.cell? (qR (w.heap.size+1+1) 1)=some (qI b)/\X.cell? (qR (w.heap.size+1+1) 2)=some (qI t) from ⟨hX.k1.ly6,hX.k2.cell 0,hX.k2.cell 1,hX.k2.cell 2⟩);have HX4:=zh hX4;have HE4:=zh h4;clear h4 hX4 hC1k hC1p hZ hSfit hSb HFN KN hS HE hl;generalize (plc C.ps m.toNat).data=dd at *;rw [HS.o] at HOR;have hv1:¬ (w.heap.size+1+1)=w.heap.size:=by omega
  have hv2:¬ w.heap.size=(w.heap.size+1+1):=by omega
  go_wp2_with (first|rw [<- HX3.o]|rw [<- HX4.o])
  obtain ⟨⟨l0,l1,l2,l3,l4,l5⟩,z0',z1',z2'⟩:=HC.o _ _ _ HE4.o;clear a10 a11 f0 z0 z1 z2 HX4;try clear HX3 x12 y0 y1 y2
  go_region_held3 (fun w'=>(w'.cell? (qR (w.heap.size+1) 0)=some (qS Y.a0 Y.xs.length Y.c0)/\w'.cell? (qR (w.heap.size+1) 1)=some (qI Y.L.stack)/\w'.cell? (qR (w.heap.size+1) 2)=some (qS Y.a2 Y.L.slots.length Y.c2)/\w'.cell? (qR (w.heap.size+1) 3)=some (qI Y.L.flash)/\w'.cell? (qR (w.heap.size+1) 4)=some (qI Y.L.ram)/\w'.cell? (qR (w.heap.size+1) 5)=some (qS Y.a5 Y.ts.length Y.c5))/\w'.cell? (qR (w.heap.size+1+1) 0)=some (qI m)/\w'.cell? (qR (w.heap.size+1+1) 1)=some (qI b)/\w'.cell? (qR (w.heap.size+1+1) 2)=some (qI t)) (go_keep)
   (first
     | (go_at_call 119;first
         | with_reducible refine (HOR.o _ brf).mono ?_
         | with_reducible refine (HOR.o _ brf.drew).mono ?_
        rintro e Xb ⟨rfl,hSb,hbb⟩;obtain ⟨p5,pf5⟩:=show Xb.cell? ⟨w.heap.size,5,none⟩=some (qI M1.pc)/\Xb.frozen? ⟨w.heap.size,5,none⟩=false from ⟨hSb.k0.cell 5,hSb.k0.frozen 5⟩
        obtain ⟨⟨l0,l1,l2,l3,l4,l5⟩,z0',z1',z2'⟩:=HC.o _ _ _ hSb))
  obtain ⟨X5,hX5⟩:=eqx (Xb.setCell ⟨w.heap.size,5,none⟩ (qI (Z+4*t)));have h5:Se w1 w X5 Y m b t { C1 with md:=m,bk:=b,pc:=Z+4*t } { M1 with md:=m,bk:=b,pc:=Z+4*t } base mid Ls β:=by rw [hX5];exact hSb.put 5 (qI (Z+4*t)) rfl (fun x=>x.spc (Z+4*t))
  have x6:X5.cell? (qR w.heap.size 6)=some (qS (some (qR gk 0)) 8 M1.kc):=by have q:=h5.k0.cell 6;rw [q];show some (qS M1.ka M1.kn M1.kc)=_;rw [hgk,hgkn]
  obtain ⟨gp,op,ea0,hgp,xd⟩:=HPC.o X5 h5.lo;have x15:X5.cell? (qR (w.heap.size+1) 0)=some (qS (some (qR gp op)) Y.xs.length Y.c0):=by rw [<- ea0];exact h5.k1.cell 0
  have y0:X5.cell? (qR (w.heap.size+1+1) 0)=some (qI m):=h5.k2.cell 0
  obtain ⟨⟨u,x7⟩,xf,hk0,hk1⟩:(∃ u,X5.cell? ⟨gk,7,none⟩=some u)/\(∀ i,X5.frozen? ⟨gk,i,none⟩=false)/\(gk≠w.heap.size/\gk≠(w.heap.size+1)/\gk≠(w.heap.size+1+1))/\w1.heap.size<=gk:=by
   have mk':OI X5 mid (qS (some (qR gk 0)) M1.kn M1.kc) C1.kz:=by rw [<- hgk];exact h5.m.k
   obtain ⟨cs,kb⟩:=aD mk'.1 (k:=gk) rfl;have lo:=(mk'.lt gk rfl).1;have bm:=h5.m.bm;refine ⟨⟨_,mk'.is.at 7 (by omega)⟩,kb.frozen,⟨fun e=>?_,fun e=>?_,fun e=>?_⟩,by omega⟩
   .rw [e] at kb;exact absurd (aH kb h5.k0) (by decide)
   .rw [e] at kb;exact absurd (aH kb h5.k1) (by decide)
   .rw [e] at kb;exact absurd (aH kb h5.k2) (by decide)
  have hn0:¬ gk=w.heap.size:=hk0.1;have hn1:¬ w.heap.size=gk:=fun e=>hk0.1 e.symm;have hn2:¬ gk=(w.heap.size+1):=hk0.2.1;have hn3:¬ (w.heap.size+1)=gk:=fun e=>hk0.2.1 e.symm;have hn4:¬ gk=(w.heap.size+1+1):=hk0.2.2;have hn5:¬ (w.heap.size+1+1)=gk:=fun e=>hk0.2.2 e.symm;have hn9:¬ gk=gp:=by omega
  have hn10:¬ gp=gk:=by omega
  obtain ⟨X6,hX6⟩:=eqx ((X5.setCell ⟨gk,7,none⟩ (qI dd)).drew);obtain ⟨M6,hM6⟩:∃ M6:Mn,M6={ M1 with md:=m,bk:=b,pc:=Z+4*t,kz:=C1.kz.set 7 dd }:=⟨_,rfl⟩
  have h6:Se w1 w X6 Y m b t (gJ C Y.L m b t) M6 base mid Ls β:=by
   rw [<- HFN2.o,hX6,hM6];exact (h5.reg hw hgk 7 (by show 7<M1.kn;omega) dd (by unfold wfi;omega)).bw brf.drew
  obtain ⟨x0,x1,x2,x3,x4,x5,x6a,x7a,x8,x9,x10,x11,x12,x13,x14⟩:=h6.k0.mc;have KR:=h6.k3;unfold z15 at KR;obtain ⟨r0,r1,r2,r3,r4,r5,r6,r7,r8,r9,r10,r11,r12,r13,r14⟩:=KR.mc;have rf:=KR.frozen;have HF:Zh (LeP w1 w base mid Ls β Y C m b t (.returned (.agg (qA M6))) (stM X6 (w.heap.size+1+1+1) M6)):=⟨M6,rfl,h6.m.tm (iZ h6.k3 (cG _ _ _ _ _ _ _ _ _ _ _ _ _ _ _ _ _)),aG h6.lo (cG _ _ _ _ _ _ _ _ _ _ _ _ _ _ _ _ _) (fun j hj=>by have:=h6.l;omega) h6.lo.size,aJe h6.tg (cG _ _ _ _ _ _ _ _ _ _ _ _ _ _ _ _ _) (by omega)⟩;have HKR:=zh h6.k3;have HX5:=zh hX5;have HX6:=zh hX6;clear h5 h6 hX5 hX6 hM6 HE4 hk0 hk1 ea0 hbb hSb l0 l1 l2 l3 l4 l5 z0' z1' z2' HC HOR HPC HFN2 KR;go_wp2_with (rw [<- HX5.o])
  clear p5 pf5
  go_region_held3 (fun w'=>w'.cell? (qR w.heap.size 6)=some (qS (some (qR gk 0)) 8 M1.kc)/\w'.cell? (qR (w.heap.size+1) 0)=some (qS (some (qR gp op)) Y.xs.length Y.c0)/\w'.cell? (qR (w.heap.size+1+1) 0)=some (qI m)/\w'.cell? (qR gp (op+m.toNat*4+2))=some (qI dd)) (go_keep) (fail)
  rw [<- HX6.o];clear x6 x7 x15 y0 xd xf;go_wp2;exact aNo HKR.o _ _ _ _ _ _ _ _ _ _ _ _ _ _ _ _ _ rfl HF.o
theorem oH {W W':qw}{a:qO}{sz:Nat}(h:Sl S W a n sz)(h':Sl S' W' a n sz):Sl (fun j=>S j/\S' j) W a n sz:=fun hn=>by
 obtain ⟨g,o,cs,t,ha,hs,hb,hl⟩:=h hn;obtain ⟨g',o',_,_,ha',hs',_,_⟩:=h' hn;rw [ha] at ha';cases ha'
 exact ⟨g,o,cs,t,ha,⟨hs,hs'⟩,hb,hl⟩
theorem aNf {W W':qw}{c:Nat}{ms:List Md}{F:Nat->Nat->Rw3}(h:Mrs S W c n ms F)(h':Mrs S' W' c n ms F):Mrs (fun j=>S j/\S' j) W c n ms F:=
 ⟨fun q=>h.nc q.1,h.head,fun i hi=>⟨oH (h.rows i hi).t (h'.rows i hi).t,⟨fun hn=>by obtain ⟨g,o,cs,t,ha,hs,hb,hl⟩:=(h.rows i hi).b.head hn;exact ⟨g,o,cs,t,ha,fun q=>hs q.1,hb,hl⟩,fun j hj=>oH ((h.rows i hi).b.rows j hj) ((h'.rows i hi).b.rows j hj)⟩,oH (h.rows i hi).d (h'.rows i hi).d,oH (h.rows i hi).r (h'.rows i hi).r,oH (h.rows i hi).i (h'.rows i hi).i,oH (h.rows i hi).e (h'.rows i hi).e,(h.rows i hi).g⟩⟩
theorem aD3 (M:Mn)(base g0 g1 g2 g3 g4 g5 g6:Nat)(ms':List Md)(w0 W6 W:qw)(h:MnR W6 base M g0 g1 g2 g3 g4 g5 g6 ms')(t:MnT w0 M)(b:MnB M)(hb:qY W6 W):
 qC 12 #[.agg (qK M g0 g1 g2 g3 g4 g5 g6),qI 1] W fun e w'=>∃ k:Nat,e=.returned (qI k)/\Turn (fun j=>base<=j/\j<W6.heap.size) W w':=by
 obtain ⟨V,hV,bV,kV⟩:=nwb W (qK M g0 g1 g2 g3 g4 g5 g6) 43;have b6:=hb.trans (bV.mono hb.size);have hV6:=h.bw b6;obtain ⟨W',hx,hx1⟩:=h.x;obtain ⟨q0,q1,q2,q3,q4,q5,q6⟩:=h.b;have l6:=(h.h.lt g6 rfl).2;have hs:=hb.size;have mr:=(aNf (aCo h.m h.n t.m) (aCo hx h.n t.m)).kept (Mkd.bw b6);have c3:=aH5 h.m h.n t.m;have bs:=b.s;obtain ⟨_,z2,z3⟩:=aJ3 h.m h.n t.m (by omega);have C0:=zh (tO _ g0 M.mn M.mn 1 ms' _ V mr (by omega) z2 z3 b.n);generalize upS (gG ms' fun i=>bnF (ms'.getD i aK)) M.mn=u at C0 c3;have i1:OI V base (qS (qP g1) M.kn M.kn) M.kz:=by have e:=t.k.1;have:=hV6.k.oi (base:=base) (by omega) (by have:=t.k.2.1;omega) t.k.2.2.1;rw [e] at this;exact this
 have i2:gK V base (qS (qP g2) M.fn M.fn) (qS (qP g3) M.rn M.rn) (qS (qP g4) M.on M.on) M.fz M.rz M.oz:=⟨lS hV6.f t.f.1 (by omega) (by have:=t.f.2.1;omega) t.f.2.2.1,lS hV6.r t.r.1 (by omega) (by have:=t.r.2.1;omega) t.r.2.2.1,lS hV6.o t.o.1 (by omega) (by have:=t.o.2.1;omega) t.o.2.2.1,fun k j hk hj=>by simp [Value.ownBlock] at hk hj;omega,fun k j hk hj=>by simp [Value.ownBlock] at hk hj;omega,fun k j hk hj=>by simp [Value.ownBlock] at hk hj;omega⟩;have i3:=hV6.l;have i4:=hV6.h;have HQ:=zh (xA q0 (xA q1 (xA q2 (xA q3 (xA q4 (xA q5 (xA q6 (xA l6 hs))))))));have HW':=zh hx1;have HZ:=zh (xA (show Turn (fun j=>base<=j/\j<W6.heap.size) W V/\Blk V W.heap.size (qK M g0 g1 g2 g3 g4 g5 g6) 43 from ⟨aJ bV,kV⟩) (xA i1 (xA i2 (xA i3 i4))));have HV:=zh hV;obtain ⟨p0,p1,p2,p3,p4,p5,p6,p7,p8,p9,p10,p11,p12,p13,p14⟩:=kV.mc;clear hV bV kV b6 hV6 hx hx1 q0 q1 q2 q3 q4 q5 q6 l6 hs mr z2 z3 i1 i2 i3 i4 h t b hb;go_enter func12,ntmps12
 go_wp2_with (rw [<- HV.o])
 refine C0.o.mono ?_;rintro e w1 ⟨rfl,mk⟩
 have HZ1:=zh (show (Turn (fun j=>base<=j/\j<W6.heap.size) W w1/\Blk w1 W.heap.size (qK M g0 g1 g2 g3 g4 g5 g6) 43)/\(OI w1 base (qS (qP g1) M.kn M.kn) M.kz)/\(gK w1 base (qS (qP g2) M.fn M.fn) (qS (qP g3) M.rn M.rn) (qS (qP g4) M.on M.on) M.fz M.rz M.oz)/\(OG 142 4 bY w1 base (qS (qP g5) M.ln M.ln) M.lz)/\OG 135 4 bC w1 base (qS (qP g6) M.hn M.hn) M.hz from by
  obtain ⟨⟨T0,k0⟩,i1,i2,i3,i4⟩:=HZ.o;have q:=HQ.o;have q':=HW'.o;have T:=mk.turn;have ns:∀ k,g1<=k->¬ ((Sm W6 g0 k/\Sm W' g0 k)\/k=g0):=fun k hk s=>by rcases s with ⟨_,s⟩|s;exact absurd s.2.1 (by omega);omega
  exact ⟨⟨T0.trans (T.mono (fun j hj=>by rcases hj with ⟨s,_⟩|s;exact ⟨by have:=s.1;omega,s.2.1⟩;exact ⟨by omega,by omega⟩)),aF T k0 (ns _ (by omega))⟩,aV T i1 (fun k hk=>ns k (by simp only [Value.ownBlock,Option.some.injEq] at hk;omega)),dM i2 T (fun j hj=>ns j (by rcases hj with hk|hk|hk<;>(simp only [Value.ownBlock,Option.some.injEq] at hk;omega))),i3.kept T (fun k hk=>ns k (by simp only [Value.ownBlock,Option.some.injEq] at hk;omega)),i4.kept T (fun k hk=>ns k (by simp only [Value.ownBlock,Option.some.injEq] at hk;omega))⟩)
 clear mk p0 p1 p2 p3 p4 p5 p6 p7 p8 p9 p10 p11 p12 p13 p14 HZ C0 HV;have C1:=zh (tQ M.pc (qP g1) M.kn M.kn base _ (1+u) w1 HZ1.o.2.1 (by omega) (by omega));obtain ⟨p0,p1,p2,p3,p4,p5,p6,p7,p8,p9,p10,p11,p12,p13,p14⟩:=HZ1.o.1.2.mc;go_wp2_with fail
 refine C1.o.mono ?_;rintro e w2 ⟨rfl,_,T⟩
 have HZ2:=zh (show (Turn (fun j=>base<=j/\j<W6.heap.size) W w2/\Blk w2 W.heap.size (qK M g0 g1 g2 g3 g4 g5 g6) 43)/\(gK w2 base (qS (qP g2) M.fn M.fn) (qS (qP g3) M.rn M.rn) (qS (qP g4) M.on M.on) M.fz M.rz M.oz)/\(OG 142 4 bY w2 base (qS (qP g5) M.ln M.ln) M.lz)/\OG 135 4 bC w2 base (qS (qP g6) M.hn M.hn) M.hz from by
  obtain ⟨⟨T0,k0⟩,i1,i2,i3,i4⟩:=HZ1.o;have q:=HQ.o;have ns:∀ k,g1<k->¬ (qS (qP g1) M.kn M.kn).ownBlock=some k:=fun k hk' hk=>by simp only [Value.ownBlock,Option.some.injEq] at hk;omega
  exact ⟨⟨T0.trans (T.mono (fun j hk=>⟨by simp only [Value.ownBlock,Option.some.injEq] at hk;omega,by simp only [Value.ownBlock,Option.some.injEq] at hk;omega⟩)),aF T k0 (ns _ (by omega))⟩,dM i2 T (fun j hj=>ns j (by rcases hj with hk|hk|hk<;>(simp only [Value.ownBlock,Option.some.injEq] at hk;omega))),i3.kept T (fun k hk=>ns k (by simp only [Value.ownBlock,Option.some.injEq] at hk;omega)),i4.kept T (fun k hk=>ns k (by simp only [Value.ownBlock,Option.some.injEq] at hk;omega))⟩)
 clear T p0 p1 p2 p3 p4 p5 p6 p7 p8 p9 p10 p11 p12 p13 p14 HZ1 C1;have C2:=zh (yT (qP g2) (qP g3) (qP g4) M.fn M.fn M.rn M.rn M.on M.on base _ _ _ (1+u+M.kn) w2 (rP HZ2.o.2.1) (by omega));obtain ⟨p0,p1,p2,p3,p4,p5,p6,p7,p8,p9,p10,p11,p12,p13,p14⟩:=HZ2.o.1.2.mc;go_wp2_with fail
 refine C2.o.mono ?_;rintro e w3 ⟨rfl,_,T⟩
 have HZ3:=zh (show (Turn (fun j=>base<=j/\j<W6.heap.size) W w3/\Blk w3 W.heap.size (qK M g0 g1 g2 g3 g4 g5 g6) 43)/\(OG 142 4 bY w3 base (qS (qP g5) M.ln M.ln) M.lz)/\OG 135 4 bC w3 base (qS (qP g6) M.hn M.hn) M.hz from by
  obtain ⟨⟨T0,k0⟩,i2,i3,i4⟩:=HZ2.o;have q:=HQ.o;have rg:∀ j,rK (qS (qP g2) M.fn M.fn) (qS (qP g3) M.rn M.rn) (qS (qP g4) M.on M.on) j->g2<=j/\j<=g4:=fun j hj=>by rcases hj with hk|hk|hk<;>(simp only [Value.ownBlock,Option.some.injEq] at hk;omega)
  exact ⟨⟨T0.trans (T.mono (fun j hk=>by have:=rg j hk;omega)),aF T k0 (fun s=>by have:=rg _ s;omega)⟩,i3.kept T (fun k hk s=>by have:=rg _ s;simp only [Value.ownBlock,Option.some.injEq] at hk;omega),i4.kept T (fun k hk s=>by have:=rg _ s;simp only [Value.ownBlock,Option.some.injEq] at hk;omega)⟩)
 clear T p0 p1 p2 p3 p4 p5 p6 p7 p8 p9 p10 p11 p12 p13 p14 HZ2 C2;have C3:=zh (mG (qP g5) M.ln M.ln base _ (1+u+M.kn+M.fn+M.rn+M.on) w3 HZ3.o.2.1 (by omega) (by omega));obtain ⟨p0,p1,p2,p3,p4,p5,p6,p7,p8,p9,p10,p11,p12,p13,p14⟩:=HZ3.o.1.2.mc;go_wp2_with fail
 refine C3.o.mono ?_;rintro e w4 ⟨rfl,_,T⟩
 have HZ4:=zh (show (Turn (fun j=>base<=j/\j<W6.heap.size) W w4/\Blk w4 W.heap.size (qK M g0 g1 g2 g3 g4 g5 g6) 43)/\OG 135 4 bC w4 base (qS (qP g6) M.hn M.hn) M.hz from by
  obtain ⟨⟨T0,k0⟩,i3,i4⟩:=HZ3.o;have q:=HQ.o
  exact ⟨⟨T0.trans (T.mono (fun j hk=>⟨by simp only [Value.ownBlock,Option.some.injEq] at hk;omega,by simp only [Value.ownBlock,Option.some.injEq] at hk;omega⟩)),aF T k0 (fun hk=>by simp only [Value.ownBlock,Option.some.injEq] at hk;omega)⟩,i4.kept T (fun k hk s=>by simp only [Value.ownBlock,Option.some.injEq] at hk s;omega)⟩)
 clear T p0 p1 p2 p3 p4 p5 p6 p7 p8 p9 p10 p11 p12 p13 p14 HZ3 C3;have C4:=zh (kY (qP g6) M.hn M.hn base _ (1+u+M.kn+M.fn+M.rn+M.on+4*M.ln) w4 HZ4.o.2 (by omega) (by omega));obtain ⟨p0,p1,p2,p3,p4,p5,p6,p7,p8,p9,p10,p11,p12,p13,p14⟩:=HZ4.o.1.2.mc;go_wp2_with fail
 refine C4.o.mono ?_;rintro e w5 ⟨rfl,_,T⟩
 have HF:=zh (show Turn (fun j=>base<=j/\j<W6.heap.size) W w5 from by
  have q:=HQ.o
  exact HZ4.o.1.1.trans (T.mono (fun j hk=>⟨by simp only [Value.ownBlock,Option.some.injEq] at hk;omega,by simp only [Value.ownBlock,Option.some.injEq] at hk;omega⟩)))
 clear T p0 p1 p2 p3 p4 p5 p6 p7 p8 p9 p10 p11 p12 p13 p14 HZ4 C4;go_wp2;go_ret;exact ⟨_,rfl,HF.o⟩
def RX (C:Cn)(lo:Nat)(N:Mn)(W:qw):Prop:=∃ base mid L β,MxO W base mid C N L β/\lo<=base
theorem RX.tm {W W':qw}(h:RX C lo N W)(t:TMx W W'):RX C lo N W':=by
 obtain ⟨base,mid,L,β,h,hl⟩:=h;exact ⟨base,mid,L,β,h.tm t,hl⟩
theorem RX.bw {W W':qw}(h:RX C lo N W)(hb:qY W W'):RX C lo N W':=h.tm (cS hb)
theorem RX.turn {W W':qw}(h:RX C lo N W)(t:Turn S W W')(hS:∀ j,S j->j<lo):RX C lo N W':=by
 obtain ⟨base,mid,L,β,h,hl⟩:=h;exact ⟨base,mid,L,β,h.turn t (fun j hj=>Nat.lt_of_lt_of_le (hS j hj) hl),hl⟩
theorem RX.mnd {W:qw}(h:RX C lo N W)(hn:C.ps.length<=1048576):MnD W N:=by
 obtain ⟨base,mid,L,β,h,hl⟩:=h;refine h.mnd ?_;have h1:=h.len;have h2:=congrArg List.length h.e;rw [xH] at h2;omega
theorem RX.sam {lo':Nat}{N':Mn}{W W':qw}(h:RX C lo N W)(h':RX C lo' N' W'):Sam N N':=by
 obtain ⟨_,_,_,_,h,_⟩:=h;obtain ⟨_,_,_,_,h',_⟩:=h';exact h.sam h'
structure SlG (n ks:Nat)(slot:Nat->Nat)(sl:List Nat)(size:Nat):Prop where
 m:∀ j,j<n->j≠ks->slot j∈sl
 i:∀ i,i<n->∀ j,j<n->i≠ks->j≠ks->i≠j->slot j≠slot i
 s:∀ j,j<n->j≠ks->slot j<size
theorem aEc (n ks:Nat)(slot:Nat->Nat)(sl:List Nat)(size:Nat)(h:((List.range n).all fun i=>i==ks || (sl.contains (slot i)&&decide (slot i<size)&&(List.range n).all fun j=>j==ks || i==j || slot j !=slot i))=true):SlG n ks slot sl size:=by
 have key:∀ i,i<n->i≠ks->slot i∈sl/\slot i<size/\∀ j,j<n->j≠ks->i≠j->slot j≠slot i:=fun i hi hk=>by
  have:=List.all_eq_true.1 h i (List.mem_range.2 hi);simp only [Bool.or_eq_true,beq_iff_eq,hk,false_or,Bool.and_eq_true,decide_eq_true_eq] at this;obtain ⟨⟨h1,h2⟩,h3⟩:=this;refine ⟨by simpa using h1,h2,fun j hj jk hij=>?_⟩;have:=List.all_eq_true.1 h3 j (List.mem_range.2 hj);simpa [jk,hij] using this
 exact ⟨fun j hj hk=>(key j hj hk).1,fun i hi j hj ik jk hij=>(key i hi ik).2.2 j hj jk hij,fun j hj hk=>(key j hj hk).2.1⟩
structure Stb (P:Nat->Value->World->Prop)(R:Mn->World->Prop):Prop where
 p:∀ {j:Nat} {v:Value} {W W':qw},P j v W->TMx W W'->P j v W'
 r:∀ {M:Mn} {W W':qw},R M W->TMx W W'->R M W'
structure IG (n kb ks:Nat)(P:Nat->Value->World->Prop)(R:Mn->World->Prop)(slot:Nat->Nat)(sl:List Nat)(W0:qw)(A:Act)(listed:Array Bool)(a:Act)(W:qw):Prop where
 sz:listed.size=n
 fs:a.tmps.size=A.tmps.size
 fd:a.defers=A.defers
 fo:∀ t,t ∉ sl->a.tmps.getD t undef=A.tmps.getD t undef
 b:qY W0 W
 p:∀ j,j<n->j≠kb->j≠ks->listed.getD j false=true->P j (a.tmps.getD (slot j) undef) W
 c:listed.getD ks false=true->listed.getD kb false=true
 bx:listed.getD kb false=true->∃ gb,a.tmps.getD (slot kb) undef=.pointer (qP gb)/\W0.heap.size<=gb/\(listed.getD ks false=false->Blk W gb z15 43)/\(listed.getD ks false=true->∃ M,Blk W gb (qA M) 43/\R M W)
section
variable {n kb ks:Nat}{P:Nat->Value->World->Prop}{R:Mn->World->Prop}{slot:Nat->Nat}{sl:List Nat}{W0 W:qw}{A a:Act}{listed:Array Bool}
theorem IG.next (h:IG n kb ks P R slot sl W0 A listed a W)(s:Stb P R)(q:SlG n ks slot sl A.tmps.size)(hk:kb<n/\kb≠ks){j:Nat}(hj:j<n)(h9:j≠kb)(h10:j≠ks)(v:Value)(W':qw)(hb:qY W W')(hp:P j v W'):IG n kb ks P R slot sl W0 A (listed.setIfInBounds j true) (a.put (some (slot j)) v) W':=by
 refine ⟨by simp [h.sz],put_sz.trans h.fs,put_df.trans h.fd,fun t ht=>(aEl (fun e=>ht (by rw [<- e];exact q.m j hj h10))).trans (h.fo t ht),h.b.trans (hb.mono h.b.size),fun i hi i9 i10 hl=>?_,fun e=>?_,fun e=>?_⟩
 .by_cases e:i=j
  .subst e;rw [aPk (by rw [h.fs];exact q.s i hj h10)];exact hp
  .rw [aEl (q.i i hi j hj i10 h10 e)];exact s.p (h.p i hi i9 i10 ((aPw hl).resolve_left e)) (cS hb)
 .rw [getD_set_ne false (by omega)] at e ⊢;exact h.c e
 .rw [getD_set_ne false (by omega)] at e;obtain ⟨gb,e1,e2,e3,e4⟩:=h.bx e;refine ⟨gb,(aEl (q.i kb hk.1 j hj hk.2 h10 (by omega))).trans e1,e2,fun f=>?_,fun f=>?_⟩
  .rw [getD_set_ne false (by omega)] at f;exact (e3 f).bw hb
  .rw [getD_set_ne false (by omega)] at f;obtain ⟨M,k1,o1⟩:=e4 f;exact ⟨M,k1.bw hb,s.r o1 (cS hb)⟩
theorem IG.box (h:IG n kb ks P R slot sl W0 A listed a W)(s:Stb P R)(q:SlG n ks slot sl A.tmps.size)(hk:kb<n/\kb≠ks)(hl:listed.getD kb true=false):IG n kb ks P R slot sl W0 A (listed.setIfInBounds kb true) (a.put (some (slot kb)) (.pointer (qP W.heap.size))) (W.alloc (.cells z15 43)):=by
 have hb:qY W (W.alloc (.cells z15 43)):=bal;rw [aNi (by rw [h.sz];exact hk.1)] at hl
 have h10:listed.getD ks false=false:=by
  cases e:listed.getD ks false with
  | false=>rfl
  | true=>have:=h.c e;rw [hl] at this;cases this
 refine ⟨by simp [h.sz],put_sz.trans h.fs,put_df.trans h.fd,fun t ht=>(aEl (fun e=>ht (by rw [<- e];exact q.m kb hk.1 hk.2))).trans (h.fo t ht),h.b.trans (hb.mono h.b.size),fun i hi i9 i10 hl2=>?_,fun e=>?_,fun _=>?_⟩
 .rw [aEl (q.i i hi kb hk.1 i10 hk.2 i9)];exact s.p (h.p i hi i9 i10 ((aPw hl2).resolve_left i9)) (cS hb)
 .rw [getD_set_ne false hk.2,h10] at e;cases e
 .refine ⟨W.heap.size,aPk (by rw [h.fs];exact q.s kb hk.1 hk.2),h.b.size,fun _=>Blk.new _ _ _,fun f=>?_⟩;rw [getD_set_ne false hk.2,h10] at f;cases f
theorem IG.store (h:IG n kb ks P R slot sl W0 A listed a W)(s:Stb P R)(hk:ks<n/\kb≠ks)(hl:listed.getD ks true=false)(h9:listed.getD kb false=true){gb:Nat}(o:R M W)(e1:a.tmps.getD (slot kb) undef=.pointer (qP gb))(e2:W0.heap.size<=gb)(k:Blk W gb z15 43):IG n kb ks P R slot sl W0 A (listed.setIfInBounds ks true) (a.put none undef) (stM W gb M):=by
 have T:=cG W gb (qS M.ma M.mn M.mc) (qI M.cs) (qI M.cw) (qI M.ck) (qI M.cd) (qI M.pc) (qS M.ka M.kn M.kc) (qS M.fa M.fn M.fc) (qS M.ra M.rn M.rc) (qS M.oa M.on M.oc) (qI M.md) (qI M.bk) (qS M.la M.ln M.lc) (qS M.ha M.hn M.hc) (qI M.tn);have tm:TMx W (stM W gb M):=T.mono (fun j hj=>by subst hj;exact ⟨_,k⟩);have e10:(listed.setIfInBounds ks true).getD ks false=true:=by simp [h.sz,hk.1]
 refine ⟨by simp [h.sz],h.fs,h.fd,h.fo,aG h.b T (fun j hj=>by omega) h.b.size,fun i hi i9 i10 hl2=>s.p (h.p i hi i9 i10 ((aPw hl2).resolve_left i10)) tm,fun _=>by rw [getD_set_ne false (Ne.symm hk.2)];exact h9,fun _=>⟨gb,e1,e2,fun f=>?_,fun _=>⟨M,iQ k _ _ _ _ _ _ _ _ _ _ _ _ _ _ _ ,s.r o tm⟩⟩⟩;rw [e10] at f;cases f
theorem IG.start (hA:A=A):IG n kb ks P R slot sl W0 A (Array.replicate n false) A W0.drew:=by
 have nf:∀ j,¬ (Array.replicate n false).getD j false=true:=fun j hl=>by
  simp only [xK,Array.getElem?_replicate] at hl;split at hl<;>simp at hl
 exact ⟨by simp,rfl,rfl,fun _ _=>rfl,brf.drew,fun j hj _ _ hl=>absurd hl (nf j),fun f=>absurd f (nf _),fun f=>absurd f (nf _)⟩
end
theorem zR (f g:Nat->Nat):∀ n,(∀ j,j<n->f j<=g j)->upS f n<=upS g n
 | 0,_=>aN
 | n+1,h=>by
   have h1:=zR f g n (fun j hj=>h j (by omega));have h2:=h n (by omega);unfold upS;omega
theorem aGe (f:Nat->Nat):∀ n,upS (fun j=>2+3*f j) n=2*n+3*upS f n
 | 0=>rfl
 | n+1=>by
   have:=aGe f n;unfold upS;omega
theorem aO6 {m:Md}{w:qw}(h:m.mt w):szc m.pm<=2+3*m.size:=by
 have e1:=h.t.1;have e2:=h.b.1;have e3:=h.d.1;have e4:=h.r.1;have e5:=h.i.1;have e6:=h.e.1
 have eb:(m.pm.bl.map List.length).sum<=upS (fun j=>(m.bl.getD j zB).2.1) m.bn:=by
  have q:=zO (fun B:Bk=>B.2.2.2.length) zB m.bl;have:(m.pm.bl.map List.length).sum=(m.bl.map fun B=>B.2.2.2.length).sum:=by unfold Md.pm;simp only [List.map_map];rfl
  rw [this,<- q,e2];exact zR _ _ _ (fun j hj=>by rw [(h.b.2.2.2.1 j hj).1];exact aN)
 unfold szc Md.size cT;show 2+m.tz.length+_+m.dz.length+m.rz.length+m.ss.length+3*m.es.length<=_;omega
theorem aNg {w:qw}(t:MnT w M)(b:MnB M):mkn M.cn+3*M.kn<=4194305:=by
 have l:=t.m.1
 have s1:((aE M.ms).map szc).sum<=2*M.mn+3*upS (fun j=>(M.ms.getD j aK).size) M.mn:=by
  have q:=zO (fun m:Md=>szc m.pm) aK M.ms;have:((aE M.ms).map szc).sum=(M.ms.map fun m=>szc m.pm).sum:=by unfold aE;rw [List.map_map];rfl
  rw [this,<- q,l,<- aGe];exact zR _ _ _ (fun j hj=>aO6 (t.m.2.2.2.1 j hj))
 have bs:=b.s;have k1:=t.k.1;have k2:=t.f.1;have k3:=t.r.1;have k4:=t.o.1;have k5:=t.l.1;have k6:=t.h.1;unfold mkn Mn.cn;dsimp only;omega
theorem aLt {L:Lay}(hv:Cv C L){m b:Int}(hp:0<=pcq C.ps m b)(t:Int):mkn (gJ C L m b t)=mkn C/\(gJ C L m b t).ps=C.ps:=by
 unfold gJ;by_cases K:C.lz.length≠0/\b≠-1
 .rw [if_pos K];have hs:=hv.slot (mN (xs:=C.lz) m b K.1);refine ⟨?_,rfl⟩;unfold mkn;dsimp only;rw [List.length_set,List.length_set,lR _ _ _ (by rw [aN6];exact hs.2.1)]
 .rw [if_neg K];refine ⟨?_,rfl⟩;unfold mkn;dsimp only;rw [List.length_set]
theorem lC (M:Mn)(Y:Lyb)(a:Int)(w:World)(h:MnD w M)(hl:Y.T w)(hv:Cv M.cn Y.L)(ha:0<=a/\a<=4294967295):
 Calls prog 132 #[.agg (qA M),.agg (qL Y.L Y.a0 Y.xs.length Y.c0 Y.a2 Y.L.slots.length Y.c2 Y.a5 Y.ts.length Y.c5),qI a] w (qB w (.tuple #[qI (if atB M.cn Y.L a=true then awy M.cn Y.L a/4 else 0),.bool (atB M.cn Y.L a)])):=by
 obtain ⟨V,hV⟩:=eqx ((w.alloc (.cells (qA M) 43)).alloc (.cells (qL Y.L Y.a0 Y.xs.length Y.c0 Y.a2 Y.L.slots.length Y.c2 Y.a5 Y.ts.length Y.c5) 71));have bV:qY w V:=by rw [hV];exact bal.alloc (by simp) _
 have kM:Blk V w.heap.size (qA M) 43:=by rw [hV];exact (Blk.new _ _ _).alloc _
 have kL:Blk V (w.heap.size+1) (qL Y.L Y.a0 Y.xs.length Y.c0 Y.a2 Y.L.slots.length Y.c2 Y.a5 Y.ts.length Y.c5) 71:=by rw [hV];have:=Blk.new (w.alloc (.cells (qA M) 43)) (qL Y.L Y.a0 Y.xs.length Y.c0 Y.a2 Y.L.slots.length Y.c2 Y.a5 Y.ts.length Y.c5) 71;simpa using this
 have hm:=h.m.bw bV;have c:0<=pcq (aE M.ms) M.md M.bk:=hv.cz.p;obtain ⟨⟨m0,m1⟩,_⟩:=kJ hm c;have m0':¬ M.md<0:=by omega
 obtain ⟨gm,om,ea,v0,v1,v2,v3,v4,v5,v6,v7⟩:=hm.s.at M.md.toNat (by omega);obtain ⟨E,hE⟩:=eqx (M.ms.getD M.md.toNat aK);rw [<- hE] at v0 v1 v2 v3 v4 v5 v6 v7;have HPD:=zh (fun (X:World) (hX:qY V X)=>(oX hm c hE.symm X hX).mono (fun e w' he=>show ∃ xa xn xc,e=.returned (.tuple #[qS xa xn xc,.bool true])/\(xn:Int)=pcq (aE M.ms) M.md M.bk/\qY V w' from he));have KN:Pkn (aE M.ms) Y.L Y.xs M.md M.bk 0:=mS (s:=0) (hl.bw bV) hv.cf.2.2.2.2 hv.cz.p;obtain ⟨S,hS⟩:=eqx (hld M.lz M.md M.bk);have hsf:S=-1\/M.bk≠-1/\0<=S/\S<(Y.L.slots.length:Int):=by rw [hS];exact hv.cz.s
 obtain ⟨Z,hZ⟩:=eqx (dY Y.L (plc (aE M.ms) M.md.toNat) M.bk S);obtain ⟨D,hD⟩:=eqx (a-Z);have hA:awy M.cn Y.L a=D:=by rw [hD,hZ,hS];rfl
 have hzr:0<=Z/\Z<=100000:=by rw [hZ,hS];exact aKe hv
 have HHO:=zh (fun (X:World) (hX:qY V X)=>(lD M.la M.ln M.lc M.lz M.md M.bk X ((h.l.bw bV).bw hX)).mono (fun e w' he=>show e=.returned (qI S)/\qY V w' from ⟨by rw [he.1,hS],hX.trans (he.2.mono hX.size)⟩));have HOR:=zh (fun (X:World) (hX:qY V X)=>(jJ Y.L Y.a0 Y.c0 Y.xs Y.a2 Y.c2 Y.a5 Y.c5 Y.ts M.md M.bk 0 S X ((hl.bw bV).bw hX) KN.m0 KN.m1 KN.bb hsf).mono (fun e w' he=>show e=.returned (qI Z)/\qY V w' from ⟨by rw [he.1,aA0,KN.p,hZ],hX.trans (he.2.mono hX.size)⟩));have HAT:=zh (aL8 hv hA);obtain ⟨r,hr⟩:=eqx (atB M.cn Y.L a);rw [<- hr] at HAT;rw [<- hr,hA];have hw1:IntKind.i64.wrap (a-Z)=D:=by rw [<- hD,xP,xQ _ (by omega)]
 have q1:=Int.tmod_add_mul_tdiv D 4;have q2:=Int.lt_tmod_of_pos D (show (0:Int)<4 by omega);have q3:=Int.tmod_lt_of_pos D (show (0:Int)<4 by omega);have hw2:IntKind.i64.wrap (D.tdiv 4)=D.tdiv 4:=by rw [xP,xQ _ (by omega)]
 have hw3:IntKind.i64.wrap (D.tmod 4)=D.tmod 4:=by rw [xP,xQ _ (by omega)]
 have HC:=zh (fun (X:World) (hX:qY V X)=>show (X.cell? ⟨w.heap.size,0,none⟩=some (qS (some ⟨gm,om,none⟩) M.mn M.mc)/\X.cell? ⟨w.heap.size,10,none⟩=some (qI M.md)/\X.cell? ⟨w.heap.size,11,none⟩=some (qI M.bk)/\X.cell? ⟨w.heap.size,12,none⟩=some (qS M.la M.ln M.lc))/\(X.cell? ⟨gm,om+M.md.toNat*8,none⟩=some (.string E.nm)/\X.cell? ⟨gm,om+M.md.toNat*8+1,none⟩=some (qS E.ta E.tn E.tc)/\X.cell? ⟨gm,om+M.md.toNat*8+2,none⟩=some (qS E.ba E.bn E.bc)/\X.cell? ⟨gm,om+M.md.toNat*8+3,none⟩=some (qS E.da E.dn E.dc)/\X.cell? ⟨gm,om+M.md.toNat*8+4,none⟩=some (qI E.bss)/\X.cell? ⟨gm,om+M.md.toNat*8+5,none⟩=some (qS E.ra E.rn E.rc)/\X.cell? ⟨gm,om+M.md.toNat*8+6,none⟩=some (qS E.ia E.im E.ic)/\X.cell? ⟨gm,om+M.md.toNat*8+7,none⟩=some (qS E.ea E.en E.ec))/\(X.cell? ⟨w.heap.size+1,0,none⟩=some (qS Y.a0 Y.xs.length Y.c0)/\X.cell? ⟨w.heap.size+1,1,none⟩=some (qI Y.L.stack)/\X.cell? ⟨w.heap.size+1,2,none⟩=some (qS Y.a2 Y.L.slots.length Y.c2)/\X.cell? ⟨w.heap.size+1,3,none⟩=some (qI Y.L.flash)/\X.cell? ⟨w.heap.size+1,4,none⟩=some (qI Y.L.ram)/\X.cell? ⟨w.heap.size+1,5,none⟩=some (qS Y.a5 Y.ts.length Y.c5)) from
  ⟨⟨by rw [<- ea];exact (kM.bw hX).cell 0,(kM.bw hX).cell 10,(kM.bw hX).cell 11,(kM.bw hX).cell 12⟩,⟨aB hX v0,aB hX v1,aB hX v2,aB hX v3,aB hX v4,aB hX v5,aB hX v6,aB hX v7⟩,(kL.bw hX).z6⟩)
 have HP:=zh c;generalize hq:pcq (aE M.ms) M.md M.bk=q at *;have HR:=zh (show r=true ↔ (D.tmod 4=0/\0<=D.tdiv 4/\D.tdiv 4<=q) from HAT.o.symm.trans (by unfold tgk;rw [show pcq M.cn.ps M.cn.md M.cn.bk=q from hq];have:=HP.o;omega));obtain ⟨v,hv'⟩:=eqx (if r=true then D/4 else 0);rw [<- hv'];have HVV:=zh hv';have HV:=zh hV;have HB:=zh bV;have hmx:=hm.s.2.1;unfold maxLen at hmx;obtain ⟨⟨x0,x1,x2,x3⟩,⟨e0,e1,e2,e3,e4,e5,e6,e7⟩,l0,l1,l2,l3,l4,l5⟩:=HC.o V brf;clear hV bV kM kL h hl hv hm c ea v0 v1 v2 v3 v4 v5 v6 v7 hE KN hsf hS hZ hD hA hzr HAT hr hq hv';go_enter func132,ntmps132
 go_wp2_with (rw [<- HV.o])
 go_region_held3 (fun w'=>w'.cell? ⟨w.heap.size,0,none⟩=some (qS (some ⟨gm,om,none⟩) M.mn M.mc)/\w'.cell? ⟨w.heap.size,10,none⟩=some (qI M.md)/\w'.cell? ⟨w.heap.size,11,none⟩=some (qI M.bk)/\w'.cell? ⟨gm,om+M.md.toNat*8,none⟩=some (.string E.nm)/\w'.cell? ⟨gm,om+M.md.toNat*8+1,none⟩=some (qS E.ta E.tn E.tc)/\w'.cell? ⟨gm,om+M.md.toNat*8+2,none⟩=some (qS E.ba E.bn E.bc)/\w'.cell? ⟨gm,om+M.md.toNat*8+3,none⟩=some (qS E.da E.dn E.dc)/\w'.cell? ⟨gm,om+M.md.toNat*8+4,none⟩=some (qI E.bss)/\w'.cell? ⟨gm,om+M.md.toNat*8+5,none⟩=some (qS E.ra E.rn E.rc)/\w'.cell? ⟨gm,om+M.md.toNat*8+6,none⟩=some (qS E.ia E.im E.ic)/\w'.cell? ⟨gm,om+M.md.toNat*8+7,none⟩=some (qS E.ea E.en E.ec)) (go_keep)
  (first
    | (go_at_call 115;first
        | with_reducible refine (HPD.o _ brf).mono ?_
        | with_reducible refine (HPD.o _ brf.drew).mono ?_
       rintro e X1 ⟨xa,xn,xc,rfl,hxn,hb1⟩;have HB1:=zh hb1;obtain ⟨⟨x0,x1,x2,x3⟩,⟨e0,e1,e2,e3,e4,e5,e6,e7⟩,l0,l1,l2,l3,l4,l5⟩:=HC.o X1 hb1
       clear hb1))
 have HHO2:=zh (fun (X:World) (hX:qY X1 X)=>HHO.o X (HB1.o.trans (hX.mono HB1.o.size)));have HXN:=zh hxn;clear hxn e0 e1 e2 e3 e4 e5 e6 e7;go_wp2_with fail
 go_region_held3 (fun w'=>(w'.cell? ⟨w.heap.size,10,none⟩=some (qI M.md)/\w'.cell? ⟨w.heap.size,11,none⟩=some (qI M.bk)/\w'.cell? ⟨w.heap.size,12,none⟩=some (qS M.la M.ln M.lc))/\w'.cell? ⟨w.heap.size+1,0,none⟩=some (qS Y.a0 Y.xs.length Y.c0)/\w'.cell? ⟨w.heap.size+1,1,none⟩=some (qI Y.L.stack)/\w'.cell? ⟨w.heap.size+1,2,none⟩=some (qS Y.a2 Y.L.slots.length Y.c2)/\w'.cell? ⟨w.heap.size+1,3,none⟩=some (qI Y.L.flash)/\w'.cell? ⟨w.heap.size+1,4,none⟩=some (qI Y.L.ram)/\w'.cell? ⟨w.heap.size+1,5,none⟩=some (qS Y.a5 Y.ts.length Y.c5)) (go_keep)
  (first
    | (go_at_call 148;first
        | with_reducible refine (HHO2.o _ brf).mono ?_
        | with_reducible refine (HHO2.o _ brf.drew).mono ?_
       rintro e X2 ⟨rfl,hb2⟩;have HB2:=zh hb2;obtain ⟨⟨x0,x1,x2,x3⟩,_,l0,l1,l2,l3,l4,l5⟩:=HC.o X2 hb2
       clear hb2)
    | (go_at_call 119;with_reducible refine (HOR.o _ HB2.o).mono ?_
       rintro e X3 ⟨rfl,hb3⟩;have HB3:=zh hb3;obtain ⟨⟨x0,x1,x2,x3⟩,_,l0,l1,l2,l3,l4,l5⟩:=HC.o X3 hb3
       clear hb3))
 clear x0 x1 x2 x3 l0 l1 l2 l3 l4 l5 HC HHO HHO2 HOR HPD hmx;have HF:=zh (fun (hr:r=false)=>show r=false/\v=0 from ⟨hr,by rw [HVV.o,hr];rfl⟩);have hno:∀ {p:Prop},(r=true->p)->¬ p->r=false:=fun h1 h2=>by cases r;rfl;exact absurd (h1 rfl) h2
 by_cases d1:D<0
 .have HE:=zh (HF.o (hno (fun q=>(HR.o.1 q)) (by omega)));clear hno;go_wp2
  go_ret2
  exact ⟨by rw [HE.o.1,HE.o.2];rfl,HB.o.trans (HB3.o.mono HB.o.size)⟩
 have d1':¬ D<0:=d1;by_cases d2:D.tmod 4=0
 .have d2':(D.tmod 4 !=0)=false:=by simp [d2]
  by_cases d3:(xn:Int)<D.tdiv 4
  .have HE:=zh (HF.o (hno (fun q=>(HR.o.1 q)) (by have:=HXN.o;omega)));clear hno;go_wp2
   go_ret2
   exact ⟨by rw [HE.o.1,HE.o.2];rfl,HB.o.trans (HB3.o.mono HB.o.size)⟩
  .have HE:=zh (show r=true/\v=D.tdiv 4 from by
    have hr:r=true:=HR.o.2 (by have:=HXN.o;omega)
    exact ⟨hr,by rw [HVV.o,if_pos hr,Int.tdiv_eq_ediv_of_nonneg (by omega)]⟩)
   clear hno HF;go_wp2
   go_ret2
   exact ⟨by rw [HE.o.1,HE.o.2];rfl,HB.o.trans (HB3.o.mono HB.o.size)⟩
 .have d2':(D.tmod 4 !=0)=true:=by simp [d2]
  have HE:=zh (HF.o (hno (fun q=>(HR.o.1 q)) (by omega)));clear hno;go_wp2
  go_ret2
  exact ⟨by rw [HE.o.1,HE.o.2];rfl,HB.o.trans (HB3.o.mono HB.o.size)⟩
