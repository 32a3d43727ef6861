import Derived.Test.YtncccmeomcaabaaGreatR42
set_option linter.all false
namespace Go.Proofs.YtncccmeomcaabaaGreat
open Go.RowKit Classical
open Go.Proofs.Tryz
set_option maxRecDepth 100000
set_option maxHeartbeats 16000000 in
theorem aCn (w1:qw)(base mid:Nat)(Ls:List (PMod×Mb))(β:Nat->Nat)(Y:Lyb)(C:Cn)(M:Mn)(m b t:Int)(w:qw)(h:MxO w base mid C M Ls β)(hb:qY w1 w)(hw:w1.heap.size<=base)(hl:Y.T w1)(hv:Cv C Y.L)(ht:C.tn<1000000000)(hp:tgk C.ps m b t):
 qC 62 #[.agg (qA M),.agg (qL Y.L Y.a0 Y.xs.length Y.c0 Y.a2 Y.L.slots.length Y.c2 Y.a5 Y.ts.length Y.c5),.agg (qT m b t)] w (LeP w1 w base mid Ls β Y C m b t):=by
 obtain ⟨U,hU⟩:=eqx ((((w.alloc (.cells (qA M) 43)).alloc (.cells (qL Y.L Y.a0 Y.xs.length Y.c0 Y.a2 Y.L.slots.length Y.c2 Y.a5 Y.ts.length Y.c5) 71)).alloc (.cells (qT m b t) 58)).alloc (.cells qZ 43));have bU:qY w U:=by rw [hU];exact ((bal.alloc (by simp) _).alloc (by simp;omega) _).alloc (by simp;omega) _
 have hS0:Se w1 w U Y m b t C M base mid Ls β:=by
  refine ⟨bC bU,hb.trans (bU.mono hb.size),hb.size,?_,?_,?_,?_,h.bw bU⟩
  .rw [hU];exact (((Blk.new _ _ _).alloc _).alloc _).alloc _
  .rw [hU];have:=((Blk.new (w.alloc (.cells (qA M) 43)) (qL Y.L Y.a0 Y.xs.length Y.c0 Y.a2 Y.L.slots.length Y.c2 Y.a5 Y.ts.length Y.c5) 71).alloc (.cells (qT m b t) 58)).alloc (.cells qZ 43);simpa using this
  .rw [hU];have:=(Blk.new ((w.alloc (.cells (qA M) 43)).alloc (.cells (qL Y.L Y.a0 Y.xs.length Y.c0 Y.a2 Y.L.slots.length Y.c2 Y.a5 Y.ts.length Y.c5) 71)) (qT m b t) 58).alloc (.cells qZ 43);simpa using this
  .rw [hU];have:=Blk.new (((w.alloc (.cells (qA M) 43)).alloc (.cells (qL Y.L Y.a0 Y.xs.length Y.c0 Y.a2 Y.L.slots.length Y.c2 Y.a5 Y.ts.length Y.c5) 71)).alloc (.cells (qT m b t) 58)) z15 43;simpa [z15] using this
 obtain ⟨_,hn4,hcs,hlz,hLk⟩:=hv.cf;obtain ⟨hp,t0,t1⟩:=hp;have KN:=rW (s:=0) hl hLk hp;have hk8:=hv.g;have hlen:=gD h.l;have x12:U.cell? (qR w.heap.size 12)=some (qS M.la M.ln M.lc):=hS0.k0.cell 12;obtain ⟨y0,y1,y2⟩:=show U.cell? ⟨(w.heap.size+1+1),0,none⟩=some (qI m)/\U.cell? ⟨(w.heap.size+1+1),1,none⟩=some (qI b)/\U.cell? ⟨(w.heap.size+1+1),2,none⟩=some (qI t) from ⟨hS0.k2.cell 0,hS0.k2.cell 1,hS0.k2.cell 2⟩;have HU:=zh hU;clear hU bU;by_cases K:C.lz.length≠0/\b≠-1
 focus
  have hb0:0<=b:=by have:=KN.bb;have:=K.2;omega
  have hsq:=lW (xs:=C.lz) m b K.1;obtain ⟨s1,s2,s3,s4,s5,s6⟩:=hv.slot hsq;obtain ⟨z1,z2,z3⟩:=fH hv.cf.1.1 hv.cf.1.2;have hsz0:slz C.cw≠0:=by have:=hv.cf.1.1;omega
  have hqs:QS bR zSl U M.la M.ln M.lc C.lz:=oZ bM hS0.m.l
  obtain ⟨gl,hgl⟩:∃ gl,M.la=some ⟨gl,0,none⟩:=by
   obtain ⟨g',cp,e,_⟩:=World.ownsRow.form h.l (by have:=K.1;omega);simp only [Value.slice.injEq] at e;exact ⟨g',e.1⟩
  have hrn:=dZ h.q.2.1;obtain ⟨gr,hgr⟩:∃ gr,M.ra=some ⟨gr,0,none⟩:=aCd h.q.2.1;have e8:=h.vs.2.2.2.2.2.2.2;have e2:=h.vs.2.1;obtain ⟨gs,os,ea2,_⟩:=hl.s.2.2.2.1 (by omega);have hsx:=hl.s.2.1;unfold maxLen at hsx;obtain ⟨s,hs⟩:=eqx (slq C.lz m b);rw [<- hs] at hsq s1 s2 s3 s4 s6;obtain ⟨A,hA⟩:=eqx (Y.L.slots.getD s 0);rw [<- hA] at s1 s2 s3 s6;obtain ⟨f,hf⟩:=eqx ((A-65536).toNat);rw [<- hf] at s2;obtain ⟨C1,hC1⟩:∃ C1:Cn,C1={ C with tn:=C.tn+1,lz:=C.lz.set s (true,m,b,C.tn+1),rz:=ovr C.rz f (bkb C.ps C.cw m b) }:=⟨_,rfl⟩;obtain ⟨M1,hM1⟩:∃ M1:Mn,M1={ M with tn:=C.tn+1,lz:=C.lz.set s (true,m,b,C.tn+1),rz:=ovr C.rz f (bkb C.ps C.cw m b) }:=⟨_,rfl⟩;obtain ⟨S,hS⟩:∃ S:Int,S=((s:Nat):Int):=⟨_,rfl⟩;have HSfit:Zh (S=-1\/(b≠-1/\0<=S/\S<(Y.L.slots.length:Int))):=.inr ⟨K.2,by omega,by omega⟩
  have HSb:=zh (show 0<=gB Y.L (plc C.ps m.toNat) b S/\gB Y.L (plc C.ps m.toNat) b S<=100000 by
   unfold gB;rw [if_neg K.2,if_neg (by omega),hS,xY,<- hA]
   omega)
  have HFN:=zh (show { C1 with md:=m,bk:=b,pc:=gB Y.L (plc C.ps m.toNat) b S+4*t,kz:=C1.kz.set 7 (plc C.ps m.toNat).data }=dI C Y.L m b t by rw [hC1,hS,hf,hA,hs];unfold dI;rw [if_pos K]);have HSL:=zh (aEd M.la M.ln M.lc C.lz m b t U hqs (aLo hv.s));rw [<- hs] at HSL
  have HSS:=zh (fun (X:qw) (hX:qY w1 X)=>show X.cell? (qR gs (os+s))=some (qI A) from by
   obtain ⟨gs',os',ea',hc'⟩:=(hl.bw hX).s.2.2.2.1 (by omega);rw [ea2] at ea';cases ea'
   rw [hA]
   exact hc' s (by omega))
  have HGL:=zh (fun (X:qw) (C':Cn) (M':Mn) (hX:Se w1 w X Y m b t C' M' base mid Ls β) (e:M'.la=some (qR gl 0)) (e':s<M'.ln)=>show (∀ j,j<4->∀ u,(bR (C'.lz.getD s zSl))[j]?=some u->X.cell? (qR gl (s*4+j))=some u)/\(∀ i,X.frozen? (qR gl i)=false)/\¬ gl=w.heap.size/\¬ gl=(w.heap.size+1)/\¬ gl=(w.heap.size+1+1)/\w1.heap.size<=gl from by
   have ml:=hX.m.l;rw [e] at ml;obtain ⟨cs,kb⟩:=aD ml (k:=gl) rfl;obtain ⟨gg,q,hq⟩:=nU bM zSl ml s e';have lo:=(ml.lt gl rfl).1;have bm:=hX.m.bm;cases q
   refine ⟨hq,kb.frozen,fun e=>?_,fun e=>?_,fun e=>?_,by omega⟩
   .rw [e] at kb;exact absurd (aI kb hX.k0) (by decide)
   .rw [e] at kb;exact absurd (aI kb hX.k1) (by decide)
   .rw [e] at kb;exact absurd (aI kb hX.k2) (by decide))
  have HSB:=zh (fun (X:qw) (hX:Se w1 w X Y m b t { C with tn:=C.tn+1,lz:=C.lz.set s (true,m,b,C.tn+1) } { M with tn:=C.tn+1,lz:=C.lz.set s (true,m,b,C.tn+1) } base mid Ls β)=>show qC 118 #[.agg #[qS M.ma M.mn M.mc,qI M.cs,qI M.cw,qI M.ck,qI M.cd,qI M.pc,qS M.ka M.kn M.kc,qS M.fa M.fn M.fc,qS (some (qR gr 0)) M.rn M.rc,qS M.oa M.on M.oc,qI M.md,qI M.bk,qS (some (qR gl 0)) M.ln M.lc,qS M.ha M.hn M.hc,qI (C.tn+1)],.agg #[.bool true,qI m,qI b,qI (C.tn+1)]] X (fun e w'=>∃ g,e=.returned (qS (some (qR g 0)) (slz C.cw) (slz C.cw))/\Se w1 w w' Y m b t { C with tn:=C.tn+1,lz:=C.lz.set s (true,m,b,C.tn+1) } { M with tn:=C.tn+1,lz:=C.lz.set s (true,m,b,C.tn+1) } base mid Ls β/\∃ w4,(Builtin.copy_ #[28,28] 3 #[qS (some (qR gr f)) (M.rn-f) (M.rc-f),qS (some (qR g 0)) (slz C.cw) (slz C.cw)]).run prog w'=.ok (goInt (slz C.cw)) w4/\Se w1 w w4 Y m b t C1 M1 base mid Ls β) from by
   have hps:aE M.ms=C.ps:=by rw [h.vz.1,h.m.pms,h.e]
   have hmn:M.mn<=1048576:=by
    have h1:=h.len;have h2:=congrArg List.length h.e;rw [xH] at h2;omega
   have q:=jK { M with tn:=C.tn+1,lz:=C.lz.set s (true,m,b,C.tn+1) } true m b (C.tn+1) X (hX.m.mnd hmn) (by show lkc (aE M.ms) M.cs M.cw M.ck M.cd=0;rw [hps,h.vs.1,e2,h.vs.2.2.1,h.vs.2.2.2.1];exact hv.k) (by show 0<M.cs;rw [h.vs.1];exact s5) (by show 0<=pcq (aE M.ms) m b;rw [hps];exact hp) hb0;dsimp only at q;rw [hgr,hgl] at q;refine q.mono ?_;rintro e w' ⟨g,rfl,ho,hbb⟩;rw [hps,e2] at ho;have hX':=hX.bw hbb;have hob:OB w' mid (qS (some (qR gr 0)) M.rn M.rc) C.rz:=by rw [<- hgr];exact hX'.m.q.2.1
   obtain ⟨w4,hrun,o4,T4⟩:=aH8 (f:=f) hob 3 (some ⟨g,0,none⟩) (M.rn-f) (M.rc-f) (slz C.cw) (slz C.cw) ho.bs (by omega) (by omega) hsz0;refine ⟨g,by rw [e2],hX',w4,hrun,?_⟩;rw [hC1,hM1]
   exact hX'.mem hw hgr T4 (by show OB w4 mid (qS M.ra M.rn M.rc) _;rw [hgr];exact o4))
  have HCC:=zh (fun (X:qw) (M':Mn) (C':Cn) (hX:Se w1 w X Y m b t C' M' base mid Ls β) (e:((qA M'):Array Value)=#[qS M.ma M.mn M.mc,qI M.cs,qI M.cw,qI M.ck,qI M.cd,qI M.pc,qS M.ka M.kn M.kc,qS M.fa M.fn M.fc,qS (some (qR gr 0)) M.rn M.rc,qS M.oa M.on M.oc,qI M.md,qI M.bk,qS (some (qR gl 0)) M.ln M.lc,qS M.ha M.hn M.hc,qI (C.tn+1)]) (ez:C'.lz=C.lz.set s (true,m,b,C.tn+1))=>show (X.cell? (qR w.heap.size 0)=some (qS M.ma M.mn M.mc)/\X.cell? (qR w.heap.size 1)=some (qI M.cs)/\X.cell? (qR w.heap.size 2)=some (qI M.cw)/\X.cell? (qR w.heap.size 3)=some (qI M.ck)/\X.cell? (qR w.heap.size 4)=some (qI M.cd)/\X.cell? (qR w.heap.size 5)=some (qI M.pc)/\X.cell? (qR w.heap.size 6)=some (qS M.ka M.kn M.kc)/\X.cell? (qR w.heap.size 7)=some (qS M.fa M.fn M.fc)/\X.cell? (qR w.heap.size 8)=some (qS (some (qR gr 0)) M.rn M.rc)/\X.cell? (qR w.heap.size 9)=some (qS M.oa M.on M.oc)/\X.cell? (qR w.heap.size 10)=some (qI M.md)/\X.cell? (qR w.heap.size 11)=some (qI M.bk)/\X.cell? (qR w.heap.size 12)=some (qS (some (qR gl 0)) M.ln M.lc)/\X.cell? (qR w.heap.size 13)=some (qS M.ha M.hn M.hc)/\X.cell? (qR w.heap.size 14)=some (qI (C.tn+1)))/\X.cell? (qR (w.heap.size+1) 2)=some (qS (some (qR gs os)) Y.L.slots.length Y.c2)/\X.cell? (qR gs (os+s))=some (qI A)/\(X.cell? (qR gl (s*4))=some (.bool true)/\X.cell? (qR gl (s*4+1))=some (qI m)/\X.cell? (qR gl (s*4+2))=some (qI b)/\X.cell? (qR gl (s*4+3))=some (qI (C.tn+1))) from by
   have k0:=hX.k0;rw [e] at k0;have el:=congrArg (fun a=>a[12]?) e;simp at el;obtain ⟨q,_⟩:=HGL.o X C' M' hX el.1 (by rw [el.2.1];omega);rw [ez] at q;have hg:(C.lz.set s (true,m,b,C.tn+1)).getD s zSl=(true,m,b,C.tn+1):=by simp [xB,hsq]
   rw [hg] at q
   exact ⟨k0.mc,by rw [<- ea2];exact hX.k1.cell 2,HSS.o X hX.lo,q 0 (by omega) _ rfl,q 1 (by omega) _ rfl,q 2 (by omega) _ rfl,q 3 (by omega) _ rfl⟩)
  have HM1:=zh hM1;have HS:=zh hS;have HS0:=zh hS0;have hC1k:C1.kz=C.kz:=by rw [hC1]
  have hC1p:C1.ps=C.ps:=by rw [hC1]
  have HEM:=zh (show ((qA M1):Array Value)=#[qS M.ma M.mn M.mc,qI M.cs,qI M.cw,qI M.ck,qI M.cd,qI M.pc,qS M.ka M.kn M.kc,qS M.fa M.fn M.fc,qS (some (qR gr 0)) M.rn M.rc,qS M.oa M.on M.oc,qI M.md,qI M.bk,qS (some (qR gl 0)) M.ln M.lc,qS M.ha M.hn M.hc,qI (C.tn+1)]/\C1.lz=C.lz.set s (true,m,b,C.tn+1) by rw [hM1,hC1];dsimp only;rw [hgr,hgl];exact ⟨rfl,rfl⟩);have hrc:M.rn<=M.rc:=h.q.2.1.bs.2.2.2.2;have hc2:(b !=-1)=true:=by simp [K.2]
  have hc3:(0:Int)<(M.ln:Int):=by have:=K.1;omega
  have hs0:(0:Int)<=(s:Int):=by omega
  have hs1:(s:Int)<(M.ln:Int):=by omega
  have hs2:(s:Int)<(Y.L.slots.length:Int):=by omega
  have hsl:s<M.ln:=by omega
  have ht0:0<=C.tn:=hv.t.1;have hwt:IntKind.i64.wrap (C.tn+1)=C.tn+1:=by rw [xP,xQ _ (by omega)]
  have hwf:IntKind.i64.wrap (A-65536)=(f:Int):=by rw [xP,xQ _ (by omega)];omega
  have hfr:(f:Int)<=(M.rn:Int):=by omega
  have hfl:(f:Int)<(M.rc:Int):=by omega
  have hfn:f<M.rn:=by omega
  have hfe:¬ M.rc=f:=by omega
  have hfm:f<M.rc:=by omega
  have hf0:(0:Int)<=(f:Int):=by omega
  have HGG:=zh (xA hgl (xA hgr e8));clear hv K hC1 hM1 hcs hlz hLk hlen h hb hn4 hS hS0 hqs hsq s1 s2 s3 s4 s5 s6 z1 z2 z3 hf hA hs hrn hb0 e2 hgl hgr e8 ea2;go_enter func62,ntmps62
  go_wp2_with (rw [<- HU.o])
  refine HSL.o.mono ?_;rintro e X1 ⟨rfl,hb1⟩;have HE1:=zh (HS0.o.bw hb1);clear hb1 x12 y0 y1 y2 HU HSL HS0;have a14:X1.cell? (qR w.heap.size 14)=some (qI C.tn):=by rw [<- HGG.o.2.2];exact HE1.o.k0.cell 14
  have f14:=HE1.o.k0.frozen 14;obtain ⟨X2,hX2⟩:=eqx (X1.setCell ⟨w.heap.size,14,none⟩ (qI (C.tn+1)));have h2:Se w1 w X2 Y m b t { C with tn:=C.tn+1 } { M with tn:=C.tn+1 } base mid Ls β:=by rw [hX2];exact HE1.o.put 14 (qI (C.tn+1)) rfl (fun x=>x.stn _)
  have b14:X2.cell? (qR w.heap.size 14)=some (qI (C.tn+1)):=h2.k0.cell 14;have b12:X2.cell? (qR w.heap.size 12)=some (qS (some (qR gl 0)) M.ln M.lc):=by have q:=h2.k0.cell 12;rw [q];show some (qS M.la M.ln M.lc)=_;rw [HGG.o.1]
  obtain ⟨y0,y1,_⟩:=show X2.cell? ⟨(w.heap.size+1+1),0,none⟩=some (qI m)/\X2.cell? ⟨(w.heap.size+1+1),1,none⟩=some (qI b)/\X2.cell? ⟨(w.heap.size+1+1),2,none⟩=some (qI t) from ⟨h2.k2.cell 0,h2.k2.cell 1,h2.k2.cell 2⟩;obtain ⟨qq,lf,hd1,hd2,hd3,hd4⟩:=HGL.o X2 _ _ h2 HGG.o.1 hsl;have l0:X2.cell? (qR gl (s*4))=_:=qq 0 (by omega) _ rfl;have l1:=qq 1 (by omega) _ rfl;have l2:=qq 2 (by omega) _ rfl;have l3:=qq 3 (by omega) _ rfl;obtain ⟨X3',hX3⟩:=eqx ((((X2.setCell ⟨gl,s*4,none⟩ (.bool true)).setCell ⟨gl,s*4+1,none⟩ (qI m)).setCell ⟨gl,s*4+2,none⟩ (qI b)).setCell ⟨gl,s*4+3,none⟩ (qI (C.tn+1)));have h3:Se w1 w X3' Y m b t { C with tn:=C.tn+1,lz:=C.lz.set s (true,m,b,C.tn+1) } { M with tn:=C.tn+1,lz:=C.lz.set s (true,m,b,C.tn+1) } base mid Ls β:=by rw [hX3];exact h2.slot hw HGG.o.1 s hsl true m b (C.tn+1)
  have HE3:=zh h3;have HX2:=zh hX2;have HX3:=zh hX3;clear h2 hX2 hX3 qq h3 HE1;go_wp2_with (first|rw [<- HX2.o]|rw [<- HX3.o])
  clear a14 f14 b14 b12 y0 y1 lf l0 l1 l2 l3 HX2 HX3;obtain ⟨⟨x0,x1,x2,x3,x4,x5,x6,x7,x8,x9,x10,x11,x12,x13,x14⟩,ys,ya,⟨l0,l1,l2,l3⟩⟩:=HCC.o X3' _ _ HE3.o (by unfold qA;dsimp only;rw [HGG.o.2.1,HGG.o.1]) rfl
  go_region_held3 (fun w'=>(w'.cell? (qR w.heap.size 0)=some (qS M.ma M.mn M.mc)/\w'.cell? (qR w.heap.size 1)=some (qI M.cs)/\w'.cell? (qR w.heap.size 2)=some (qI M.cw)/\w'.cell? (qR w.heap.size 3)=some (qI M.ck)/\w'.cell? (qR w.heap.size 4)=some (qI M.cd)/\w'.cell? (qR w.heap.size 5)=some (qI M.pc)/\w'.cell? (qR w.heap.size 6)=some (qS M.ka M.kn M.kc)/\w'.cell? (qR w.heap.size 7)=some (qS M.fa M.fn M.fc)/\w'.cell? (qR w.heap.size 8)=some (qS (some (qR gr 0)) M.rn M.rc)/\w'.cell? (qR w.heap.size 9)=some (qS M.oa M.on M.oc)/\w'.cell? (qR w.heap.size 10)=some (qI M.md)/\w'.cell? (qR w.heap.size 11)=some (qI M.bk)/\w'.cell? (qR w.heap.size 12)=some (qS (some (qR gl 0)) M.ln M.lc)/\w'.cell? (qR w.heap.size 13)=some (qS M.ha M.hn M.hc)/\w'.cell? (qR w.heap.size 14)=some (qI (C.tn+1)))/\w'.cell? (qR (w.heap.size+1) 2)=some (qS (some (qR gs os)) Y.L.slots.length Y.c2)/\w'.cell? (qR gs (os+s))=some (qI A)/\(w'.cell? (qR gl (s*4))=some (.bool true)/\w'.cell? (qR gl (s*4+1))=some (qI m)/\w'.cell? (qR gl (s*4+2))=some (qI b)/\w'.cell? (qR gl (s*4+3))=some (qI (C.tn+1)))) (go_keep)
   (first
     | (go_at_call 118;first
         | with_reducible refine (HSB.o _ HE3.o).mono ?_
         | with_reducible refine (HSB.o _ (HE3.o.bw brf.drew)).mono ?_
        rintro e Xc ⟨g,rfl,hc,X3,hrun,he⟩;obtain ⟨⟨x0,x1,x2,x3,x4,x5,x6,x7,x8,x9,x10,x11,x12,x13,x14⟩,ys,ya,⟨l0,l1,l2,l3⟩⟩:=HCC.o Xc _ _ hc (by unfold qA;dsimp only;rw [HGG.o.2.1,HGG.o.1]) rfl
        obtain ⟨⟨v0,v1,v2,v3,v4,v5,v6,v7,v8,v9,v10,v11,v12,v13,v14⟩,vs,va,⟨u0,u1,u2,u3⟩⟩:=HCC.o X3 _ _ he HEM.o.1 HEM.o.2))
  have HE:=zh he;clear x0 x1 x2 x3 x4 x5 x6 x7 x8 x9 x10 x11 x12 x13 x14 v0 v1 v2 v3 v4 v5 v6 v7 v8 v9 v10 v11 v12 v13 v14 ys ya vs va l0 l1 l2 l3 u0 u1 u2 u3 he hc hrun HCC HSB HGL HSS HE3;have hSfit:=HSfit.o;have hSb:=HSb.o;have hS:=HS.o
 rotate_left
 focus
  have hK:C.lz.length=0\/b=-1:=by
   by_cases q:b=-1
   .exact .inr q
   .exact .inl (xZ.1 (fun q'=>K ⟨q',q⟩))
  have hcc:M.ln=0\/(M.ln≠0/\(b !=-1)=false):=by
   by_cases q:M.ln=0
   .exact .inl q
   .refine .inr ⟨q,?_⟩;rcases hK with hK|hK
    .exact absurd (by omega) q
    .simp [hK]
  obtain ⟨C1,hC1⟩:∃ C1:Cn,C1=C:=⟨_,rfl⟩;obtain ⟨M1,hM1⟩:∃ M1:Mn,M1=M:=⟨_,rfl⟩;obtain ⟨S,hS⟩:∃ S:Int,S=-1:=⟨_,rfl⟩;have HSfit:Zh (S=-1\/(b≠-1/\0<=S/\S<(Y.L.slots.length:Int))):=.inl hS;have HSb:=zh (show 0<=gB Y.L (plc C.ps m.toNat) b S/\gB Y.L (plc C.ps m.toNat) b S<=100000 by rw [hS];exact aJj hLk hp);have HFN:=zh (show { C1 with md:=m,bk:=b,pc:=gB Y.L (plc C.ps m.toNat) b S+4*t,kz:=C1.kz.set 7 (plc C.ps m.toNat).data }=dI C Y.L m b t by rw [hC1,hS];unfold dI;rw [if_neg K]);have HM1:=zh (xA hC1 hM1);have HS:=zh hS;have HS0:=zh hS0;clear hv hK K hC1 hM1 hcs hlz hLk hlen h hb hn4 hS hS0;rcases hcc with hc1|⟨hc1,hc2⟩
  all_goals
   first
    | have hc3:¬ (0:Int)<(M.ln:Int):=by omega
    | have hc3:(0:Int)<(M.ln:Int):=by omega
   go_enter func62,ntmps62
   obtain ⟨X3,hX3⟩:∃ X3:World,X3=U:=⟨_,rfl⟩;have HE:=zh (show Se w1 w X3 Y m b t C1 M1 base mid Ls β by rw [hX3,HM1.o.1,HM1.o.2];exact HS0.o);have HX3:=zh (hX3.trans HU.o);rw [<- hX3] at x12 y0 y1 y2;have hC1k:C1.kz=C.kz:=by rw [HM1.o.1]
   have hC1p:C1.ps=C.ps:=by rw [HM1.o.1]
   have hSfit:=HSfit.o;have hSb:=HSb.o;have hS:=HS.o;clear hX3 HU hc1
 all_goals
  have e3:C1.kz.length=8:=by rw [hC1k];exact hk8
  obtain ⟨gk,hgk,hgkn⟩:∃ gk,M1.ka=some ⟨gk,0,none⟩/\M1.kn=8:=by
   have hl:=mB HE.o.m.k;obtain ⟨g',cp,e,_⟩:=World.ownsRow.form HE.o.m.k.1 (by omega);simp only [Value.slice.injEq] at e;exact ⟨g',e.1,by omega⟩
  obtain ⟨a10,a11,f0⟩:=show X3.cell? ⟨w.heap.size,10,none⟩=some (qI M1.md)/\X3.cell? ⟨w.heap.size,11,none⟩=some (qI M1.bk)/\∀ i,X3.frozen? ⟨w.heap.size,i,none⟩=false from ⟨HE.o.k0.cell 10,HE.o.k0.cell 11,HE.o.k0.frozen⟩;obtain ⟨z0,z1,z2⟩:=show X3.cell? ⟨(w.heap.size+1+1),0,none⟩=some (qI m)/\X3.cell? ⟨(w.heap.size+1+1),1,none⟩=some (qI b)/\X3.cell? ⟨(w.heap.size+1+1),2,none⟩=some (qI t) from ⟨HE.o.k2.cell 0,HE.o.k2.cell 1,HE.o.k2.cell 2⟩;obtain ⟨X4,hX4⟩:=eqx ((X3.setCell ⟨w.heap.size,10,none⟩ (qI m)).setCell ⟨w.heap.size,11,none⟩ (qI b));have h4:Se w1 w X4 Y m b t { C1 with md:=m,bk:=b } { M1 with md:=m,bk:=b } base mid Ls β:=by rw [hX4];exact (HE.o.put 10 (qI m) rfl (fun x=>x.smd m)).put 11 (qI b) rfl (fun x=>x.sbk b)
  obtain ⟨Z,hZ⟩:=eqx (gB Y.L (plc C.ps m.toNat) b S);have HOR:=zh (fun (X:qw) (hX:qY X4 X)=>(mZ Y.L Y.a0 Y.c0 Y.xs Y.a2 Y.c2 Y.a5 Y.c5 Y.ts m b t S X ((hl.bw h4.lo).bw hX) KN.m0 KN.m1 KN.bb hSfit).mono (fun e w' he=>show e=.returned (qI Z)/\Se w1 w w' Y m b t { C1 with md:=m,bk:=b } { M1 with md:=m,bk:=b } base mid Ls β/\qY X4 w' from ⟨by rw [he.1,hZ,aJi,KN.p],h4.bw (hX.trans (he.2.mono hX.size)),hX.trans (he.2.mono hX.size)⟩));have HFN2:=zh (show { C1 with md:=m,bk:=b,pc:=Z+4*t,kz:=C1.kz.set 7 (plc C.ps m.toNat).data }=dI C Y.L m b t by rw [hZ];exact HFN.o);have hz0:0<=Z:=by rw [hZ];exact hSb.1
  have hz1:Z<=100000:=by rw [hZ];exact hSb.2
  have ht2:t<=200:=by have:=KN.w.2;omega
  have hw1:IntKind.i64.wrap (4*t)=4*t:=by rw [xP,xQ _ (by omega)]
  have hw2:IntKind.i64.wrap (Z+4*t)=Z+4*t:=by rw [xP,xQ _ (by omega)]
  have hmm:=xA KN.m0 KN.m1;have hdd:=xA KN.d.1 KN.d.2.1
  have HPC:=zh (fun (X:qw) (hX:qY w1 X)=>show ∃ gp op,Y.a0=some (qR gp op)/\gp<w1.heap.size/\X.cell? (qR gp (op+m.toNat*4+2))=some (qI (plc C.ps m.toNat).data) from by
   obtain ⟨gp,op,e,_,_,q2,_⟩:=hl.p.at m.toNat (by have:=KN.m0;have:=KN.m1;omega);rw [KN.p] at q2
   exact ⟨gp,op,e,xD w1 _ q2,aB hX q2⟩)
  have hax:=hl.p.2.1;unfold maxLen at hax;have HC:=zh (fun (X:qw) (C':Cn) (M':Mn) (hX:Se w1 w X Y m b t C' M' base mid Ls β)=>show (X.cell? (qR (w.heap.size+1) 0)=some (qS Y.a0 Y.xs.length Y.c0)/\X.cell? (qR (w.heap.size+1) 1)=some (qI Y.L.stack)/\X.cell? (qR (w.heap.size+1) 2)=some (qS Y.a2 Y.L.slots.length Y.c2)/\X.cell? (qR (w.heap.size+1) 3)=some (qI Y.L.flash)/\X.cell? (qR (w.heap.size+1) 4)=some (qI Y.L.ram)/\X.cell? (qR (w.heap.size+1) 5)=some (qS Y.a5 Y.ts.length Y.c5))/\X.cell? (qR (w.heap.size+1+1) 0)=some (qI m)/\X.cell? (qR (w.heap.size+1+1) 1)=some (qI b)/\X.cell? (qR (w.heap.size+1+1) 2)=some (qI t) from ⟨hX.k1.ly6,hX.k2.cell 0,hX.k2.cell 1,hX.k2.cell 2⟩);have HX4:=zh hX4;have HE4:=zh h4;clear h4 hX4 hC1k hC1p hZ hSfit hSb HFN KN hS HE hl;generalize (plc C.ps m.toNat).data=dd at *;rw [HS.o] at HOR;have hv1:¬ (w.heap.size+1+1)=w.heap.size:=by omega
  have hv2:¬ w.heap.size=(w.heap.size+1+1):=by omega
  go_wp2_with (first|rw [<- HX3.o]|rw [<- HX4.o])
  obtain ⟨⟨l0,l1,l2,l3,l4,l5⟩,z0',z1',z2'⟩:=HC.o _ _ _ HE4.o;clear a10 a11 f0 z0 z1 z2 HX4;try clear HX3 x12 y0 y1 y2
  go_region_held3 (fun w'=>(w'.cell? (qR (w.heap.size+1) 0)=some (qS Y.a0 Y.xs.length Y.c0)/\w'.cell? (qR (w.heap.size+1) 1)=some (qI Y.L.stack)/\w'.cell? (qR (w.heap.size+1) 2)=some (qS Y.a2 Y.L.slots.length Y.c2)/\w'.cell? (qR (w.heap.size+1) 3)=some (qI Y.L.flash)/\w'.cell? (qR (w.heap.size+1) 4)=some (qI Y.L.ram)/\w'.cell? (qR (w.heap.size+1) 5)=some (qS Y.a5 Y.ts.length Y.c5))/\w'.cell? (qR (w.heap.size+1+1) 0)=some (qI m)/\w'.cell? (qR (w.heap.size+1+1) 1)=some (qI b)/\w'.cell? (qR (w.heap.size+1+1) 2)=some (qI t)) (go_keep)
   (first
     | (go_at_call 119;first
         | with_reducible refine (HOR.o _ brf).mono ?_
         | with_reducible refine (HOR.o _ brf.drew).mono ?_
        rintro e Xb ⟨rfl,hSb,hbb⟩;obtain ⟨p5,pf5⟩:=show Xb.cell? ⟨w.heap.size,5,none⟩=some (qI M1.pc)/\Xb.frozen? ⟨w.heap.size,5,none⟩=false from ⟨hSb.k0.cell 5,hSb.k0.frozen 5⟩
        obtain ⟨⟨l0,l1,l2,l3,l4,l5⟩,z0',z1',z2'⟩:=HC.o _ _ _ hSb))
  obtain ⟨X5,hX5⟩:=eqx (Xb.setCell ⟨w.heap.size,5,none⟩ (qI (Z+4*t)));have h5:Se w1 w X5 Y m b t { C1 with md:=m,bk:=b,pc:=Z+4*t } { M1 with md:=m,bk:=b,pc:=Z+4*t } base mid Ls β:=by rw [hX5];exact hSb.put 5 (qI (Z+4*t)) rfl (fun x=>x.spc (Z+4*t))
  have x6:X5.cell? (qR w.heap.size 6)=some (qS (some (qR gk 0)) 8 M1.kc):=by have q:=h5.k0.cell 6;rw [q];show some (qS M1.ka M1.kn M1.kc)=_;rw [hgk,hgkn]
  obtain ⟨gp,op,ea0,hgp,xd⟩:=HPC.o X5 h5.lo;have x15:X5.cell? (qR (w.heap.size+1) 0)=some (qS (some (qR gp op)) Y.xs.length Y.c0):=by rw [<- ea0];exact h5.k1.cell 0
  have y0:X5.cell? (qR (w.heap.size+1+1) 0)=some (qI m):=h5.k2.cell 0
  obtain ⟨⟨u,x7⟩,xf,hk0,hk1⟩:(∃ u,X5.cell? ⟨gk,7,none⟩=some u)/\(∀ i,X5.frozen? ⟨gk,i,none⟩=false)/\(gk≠w.heap.size/\gk≠(w.heap.size+1)/\gk≠(w.heap.size+1+1))/\w1.heap.size<=gk:=by
   have mk':OI X5 mid (qS (some (qR gk 0)) M1.kn M1.kc) C1.kz:=by rw [<- hgk];exact h5.m.k
   obtain ⟨cs,kb⟩:=aD mk'.1 (k:=gk) rfl;have lo:=(mk'.lt gk rfl).1;have bm:=h5.m.bm;refine ⟨⟨_,mk'.is.at 7 (by omega)⟩,kb.frozen,⟨fun e=>?_,fun e=>?_,fun e=>?_⟩,by omega⟩
   .rw [e] at kb;exact absurd (aI kb h5.k0) (by decide)
   .rw [e] at kb;exact absurd (aI kb h5.k1) (by decide)
   .rw [e] at kb;exact absurd (aI kb h5.k2) (by decide)
  have hn0:¬ gk=w.heap.size:=hk0.1;have hn1:¬ w.heap.size=gk:=fun e=>hk0.1 e.symm;have hn2:¬ gk=(w.heap.size+1):=hk0.2.1;have hn3:¬ (w.heap.size+1)=gk:=fun e=>hk0.2.1 e.symm;have hn4:¬ gk=(w.heap.size+1+1):=hk0.2.2;have hn5:¬ (w.heap.size+1+1)=gk:=fun e=>hk0.2.2 e.symm;have hn9:¬ gk=gp:=by omega
  have hn10:¬ gp=gk:=by omega
  obtain ⟨X6,hX6⟩:=eqx ((X5.setCell ⟨gk,7,none⟩ (qI dd)).drew);obtain ⟨M6,hM6⟩:∃ M6:Mn,M6={ M1 with md:=m,bk:=b,pc:=Z+4*t,kz:=C1.kz.set 7 dd }:=⟨_,rfl⟩
  have h6:Se w1 w X6 Y m b t (dI C Y.L m b t) M6 base mid Ls β:=by
   rw [<- HFN2.o,hX6,hM6];exact (h5.reg hw hgk 7 (by show 7<M1.kn;omega) dd (by unfold wfi;omega)).bw brf.drew
  obtain ⟨x0,x1,x2,x3,x4,x5,x6a,x7a,x8,x9,x10,x11,x12,x13,x14⟩:=h6.k0.mc;have KR:=h6.k3;unfold z15 at KR;obtain ⟨r0,r1,r2,r3,r4,r5,r6,r7,r8,r9,r10,r11,r12,r13,r14⟩:=KR.mc;have rf:=KR.frozen;have HF:Zh (LeP w1 w base mid Ls β Y C m b t (.returned (.agg (qA M6))) (jS X6 (w.heap.size+1+1+1) (qS M6.ma M6.mn M6.mc) (qI M6.cs) (qI M6.cw) (qI M6.ck) (qI M6.cd) (qI M6.pc) (qS M6.ka M6.kn M6.kc) (qS M6.fa M6.fn M6.fc) (qS M6.ra M6.rn M6.rc) (qS M6.oa M6.on M6.oc) (qI M6.md) (qI M6.bk) (qS M6.la M6.ln M6.lc) (qS M6.ha M6.hn M6.hc) (qI M6.tn))):=⟨M6,rfl,h6.m.tm (fP h6.k3 (cE _ _ _ _ _ _ _ _ _ _ _ _ _ _ _ _ _ )),aG h6.lo (cE _ _ _ _ _ _ _ _ _ _ _ _ _ _ _ _ _ ) (fun j hj=>by have:=h6.l;omega) h6.lo.size,aIf h6.tg (cE _ _ _ _ _ _ _ _ _ _ _ _ _ _ _ _ _ ) (by omega)⟩;have HKR:=zh h6.k3;have HX5:=zh hX5;have HX6:=zh hX6;clear h5 h6 hX5 hX6 hM6 HE4 hk0 hk1 ea0 hbb hSb l0 l1 l2 l3 l4 l5 z0' z1' z2' HC HOR HPC HFN2 KR;go_wp2_with (rw [<- HX5.o])
  clear p5 pf5
  go_region_held3 (fun w'=>w'.cell? (qR w.heap.size 6)=some (qS (some (qR gk 0)) 8 M1.kc)/\w'.cell? (qR (w.heap.size+1) 0)=some (qS (some (qR gp op)) Y.xs.length Y.c0)/\w'.cell? (qR (w.heap.size+1+1) 0)=some (qI m)/\w'.cell? (qR gp (op+m.toNat*4+2))=some (qI dd)) (go_keep) (fail)
  rw [<- HX6.o];clear x6 x7 x15 y0 xd xf;go_wp2;exact aMo HKR.o _ _ _ _ _ _ _ _ _ _ _ _ _ _ _ _ _ rfl HF.o
