import Derived.Test.YtncccmeomcaabaaGreatR10
import Derived.Test.YtncccmeomcaabaaGreatR14
set_option linter.all false
set_option maxHeartbeats 2000000
namespace Go.Proofs.YtncccmeomcaabaaGreat
open Go.RowKit
open Go.Proofs.Tryz
set_option maxRecDepth 100000
variable {g o:Nat}{q:Rg}
def zV (w:qw)(g o:Nat)(r x y:Bool):World:=((w.setCell (qR g (o+3)) (.bool r)).setCell (qR g (o+4)) (.bool x)).setCell (qR g (o+5)) (.bool y)
theorem cN (w:qw)(g o b o':Nat)(r x y:Bool)(h:b≠g\/o'<o+3\/o+6<=o':=by omega):(zV w g o r x y).cell? (qR b o')=w.cell? (qR b o'):=by
 unfold zV;rw [cP,cP,cP]
theorem aL0 {w:qw}(h:At6 w g o q)(r x y:Bool):At6 (zV w g o r x y) g o (rgt r x y q):=by
 obtain ⟨h1,h2,h3,h4,h5,h6⟩:=h;refine ⟨?_,?_,?_,?_,?_,?_⟩
 .rw [cN _ _ _ _ _ _ _ _];exact h1
 .rw [cN _ _ _ _ _ _ _ _];exact h2
 .rw [cN _ _ _ _ _ _ _ _];exact h3
 .unfold zV;rw [cP,cP];exact oS h4
 .unfold zV;rw [cP];exact oS (by rw [cP];exact h5)
 .unfold zV;exact oS (by rw [cP,cP];exact h6)
theorem aB6 {w:qw}{b o':Nat}(h:At6 w b o' q)(r x y:Bool)(hf:b≠g\/o'+6<=o\/o+6<=o'):At6 (zV w g o r x y) b o' q:=by
 unfold At6;rw [cN _ _ _ _ _ _ _ _,cN _ _ _ _ _ _ _ _,cN _ _ _ _ _ _ _ _,cN _ _ _ _ _ _ _ _,cN _ _ _ _ _ _ _ _,cN _ _ _ _ _ _ _ _];exact h
def sL (r x y:Bool)(C:List Rg)(k:Nat):List Rg:=(rts r x y C).take k++C.drop k
theorem sK (r x y:Bool)(C:List Rg)(k:Nat)(h:k<=C.length):(sL r x y C k).length=C.length:=by
 simp [sL,fQ];omega
theorem aF3 (r x y:Bool)(C:List Rg)(k i:Nat)(h:k<=C.length)(hi:i<C.length):(sL r x y C k).getD i z6=if i<k then rgt r x y (C.getD i z6) else C.getD i z6:=by
 unfold sL;by_cases c:i<k
 .rw [if_pos c,xB,List.getElem?_append_left (by simp [fQ];omega)];simp [rts,c,hi,xB]
 .rw [if_neg c,xB,List.getElem?_append_right (by simp [fQ];omega)];simp only [List.length_take,fQ,List.getElem?_drop];rw [show k+(i-min k C.length)=i by omega,xB]
theorem aI6 {w:qw}{r x y:Bool}{C:List Rg}{k:Nat}(hk:k<C.length)(h:RowW w g (sL r x y C k)):RowW (zV w g (k*6) r x y) g (sL r x y C (k+1)):=by
 obtain ⟨⟨cur,hc⟩,hr⟩:=h;refine ⟨⟨_,((hc.set _ _).set _ _).set _ _⟩,fun i hi=>?_⟩;rw [sK _ _ _ _ _ (by omega)] at hi;have hq:=hr i (by rw [sK _ _ _ _ _ (by omega)];exact hi);rw [aF3 _ _ _ _ _ _ (by omega) hi] at hq;rw [aF3 _ _ _ _ _ _ (by omega) hi];by_cases c:i=k
 .subst c;rw [if_neg (by omega)] at hq;rw [if_pos (by omega)];exact aL0 hq r x y
 .by_cases c2:i<k
  .rw [if_pos c2] at hq;rw [if_pos (by omega)];exact aB6 hq r x y (by omega)
  .rw [if_neg c2] at hq;rw [if_neg (by omega)];exact aB6 hq r x y (by omega)
theorem aB3 (f s:Int)(r x y:Bool)(w:qw)(hf:wfi f)(hs:wfi s):
 qC 220 #[.agg #[qI f,qI s,.bool r,.bool x,.bool y]] w fun e w'=>∃ A n cap,e=.returned (qS A n cap)/\RS w' A n cap (rts r x y (cvL f s))/\(A=none->n=0/\cap=0)/\qY w w':=by
 obtain ⟨W,hW⟩:=eqx (w.alloc (.cells #[qI f,qI s,.bool r,.bool x,.bool y] 234));have HBW:=zh (show qY w W by rw [hW];exact bal);have k0:Blk W w.heap.size #[qI f,qI s,.bool r,.bool x,.bool y] 234:=by rw [hW];exact Blk.new w _ _
 have sW:W.heap.size=w.heap.size+1:=by rw [hW];simp
 have d0:=k0.e0;have d1:=k0.e1;have HK:=zh k0;have HC:=zh (aEs f s W (by unfold wfi at hf;omega));have HL:=zh (rA f s);generalize cvL f s=C at *;have HW:=zh hW;clear hW k0;go_enter func220,ntmps220
 go_wp2_with (rw [<- HW.o])
 refine HC.o.mono ?_;rintro e w2 ⟨c,n,cc,rfl,hC,hB2⟩;have HN:=zh (eZ hC).1;have hn:n<=8192:=by have:=HN.o;have:=HL.o;omega
 have HX:=zh (xA hC hB2);by_cases h0:n=0
 .subst h0;clear hC hB2;go_wp2_with fail
  go_loopw [16] (fun i wr=>i=qI 0/\wr=w2) (fun _ _=>0)
  .exact ⟨rfl,rfl⟩
  .obtain ⟨rfl,rfl⟩:=hrel;go_wp2;go_ret;have e0:C=[]:=xE HN.o;refine ⟨_,_,_,rfl,?_,fun hc=>?_,HBW.o.trans (HX.o.2.mono HBW.o.size)⟩;rotate_left
   .obtain ⟨hl,⟨h1,_⟩|⟨g',cap',cur,hv,_⟩⟩:=HX.o.1.1
    .injection h1 with _ h1 h2;exact ⟨rfl,h2⟩
    .injection hv with h1;rw [hc] at h1;cases h1
   have:=eZ HX.o.1;rw [e0] at this ⊢;exact this
 .have hn0:n≠0:=h0
  obtain ⟨g,ha⟩:∃ g,c=some ⟨g,0,none⟩:=by
   obtain ⟨hl,⟨h1,_⟩|⟨g',cap',cur,hv,_⟩⟩:=hC.1
   .injection h1 with _ h1;exact absurd h1 hn0
   .injection hv with h1;exact ⟨g',h1⟩
  subst ha;have HR:=zh (aL7 hC hn0)
  have hg1:W.heap.size<=g:=by
   obtain ⟨hl,⟨h1,_⟩|⟨g',cap',cur,hv,hg,_⟩⟩:=hC.1
   .injection h1 with _ h1;exact absurd h1 hn0
   .injection hv with h1;injection h1 with h1;injection h1 with h1;omega
  clear hC hB2;go_wp2_with fail
  go_loopw [16] (fun i wr=>∃ k:Nat,k<=n/\i=qI k/\RowW wr g (sL r x y C k)/\qY W wr) (qf n)
  .exact ⟨0,xC _,rfl,by simpa [sL] using HR.o,HX.o.2⟩
  .obtain ⟨k,hk,rfl,hR,hB⟩:=hrel;by_cases hlt:k<n
   .have hlt':(k:Int)<(n:Int):=by omega
    obtain ⟨p0,p1,p2,p3,p4,p5⟩:=hR.2 k (by rw [sK _ _ _ _ _ (by rw [HN.o];omega),HN.o];exact hlt);have hfz:=hR.frozen;have kk:=HK.o.bw hB;have e2:=kk.e2;have e3:=kk.e3;have e4:=kk.e4;have HS:=zh (aI6 (by rw [HN.o];exact hlt) hR);have HB3:Zh (qY W ((zV wr g (k*6) r x y).drew)):=(((hB.setCell (p:=(qR g (k*6+3))) hg1 _).setCell (p:=(qR g (k*6+4))) hg1 _).setCell (p:=(qR g (k*6+5))) hg1 _).drew;clear hR hB kk;generalize (sL r x y C k).getD k z6=G at *;obtain ⟨g1,g2,g3,g4,g5,g6⟩:=G;have hne:¬ g=w.heap.size:=by omega
    have hne':¬ w.heap.size=g:=by omega
    have f3:=hfz (k*6+3);have f4:=hfz (k*6+4);have f5:=hfz (k*6+5);clear hfz;go_wp2
    go_region_with (fail)
    all_goals
     go_wp2
     go_roundw
     .exact ⟨k+1,by omega,by go_num,HS.o,HB3.o⟩
     .simp [qf,intOf];omega
   .have HE:=zh (show k=n by omega);have HF:=zh (xA hR hB);clear hR hB;go_wp2;go_ret;refine ⟨_,_,_,rfl,?_,(fun hc=>by cases hc),HBW.o.trans (HF.o.2.mono HBW.o.size)⟩;have hRR:=HF.o.1
    have e0:sL r x y C k=rts r x y C:=by
     have hl:=fQ r x y C;have:=HN.o;unfold sL;rw [List.drop_eq_nil_of_le (by rw [HE.o,this];exact aN),List.append_nil,xG (by rw [hl,this,HE.o];exact aN)]
    rw [e0] at hRR;refine ⟨by rw [fQ];exact HN.o,by unfold maxLen;omega,?_,fun _=>⟨g,0,rfl,fun i hi=>by have:=hRR.2 i (by rw [fQ,HN.o];exact hi);rw [Nat.zero_add];exact this⟩,(eZ HX.o.1).2.2.2.2⟩;intro q hq;simp only [rts,List.mem_map] at hq;obtain ⟨p,hp,rfl⟩:=hq;exact HX.o.1.2 p hp
theorem aMb (w:qw)(base g:Nat)(hb:base<=g)(h:Blk w g #[] 3):OI w base (qS (qP g) 0 0) []:=
 ⟨⟨rfl,.inr ⟨g,0,#[],rfl,hb,h,aN,xC _,rfl,rfl⟩⟩,fun _ h=>by cases h⟩
theorem aOl (w:qw)(base:Nat):OI w base (qS none 0 0) []:=⟨⟨rfl,.inl ⟨rfl,rfl⟩⟩,fun _ h=>by cases h⟩
theorem aCp (pc:Int)(b off cap:Nat)(w:qw):
 qC 84 #[.agg #[qI pc,qS (some (qR b off)) 0 cap]] w (iL w pc 0 []):=by
 obtain ⟨i0,hi,hz0,hz1,hz2⟩:=info_parts jL;go_enter func84,ntmps84
 go_wp2
 go_region_law (first
  | (refine step_append_room rfl _ _ 25 rfl 3 i0 1 underlying25 hi hz1 (w.heap.size+1+1) 0 0 0 rfl (qR b off) 0 cap [] rfl rfl (by intro j u hj;simp at hj) (by intro u hu;simp at hu) aN (by intro j hj;simp at hj) ?_;simp only [World.setCells]))
 all_goals
  have x3:=Blk.new ((w.alloc (.cells #[qI pc,qS (some (qR b off)) 0 cap] 38)).alloc (.cells #[qI pc,qS (some (qR (w.heap.size+1+1) 0)) 0 0] 38)) #[] 3;try unfold qY at *
  simp only [xF] at x3;have hB:qY w (((w.alloc (.cells #[qI pc,qS (some (qR b off)) 0 cap] 38)).alloc (.cells #[qI pc,qS (some (qR (w.heap.size+1+1) 0)) 0 0] 38)).alloc (.cells #[] 3)):=(bal.alloc (by simp) _).alloc (by simp;omega) _;have HX:=zh (xA x3 hB);clear x3 hB;go_wp2;exact bodyPost_ret (v:=.agg #[qI pc,qS (some (qR (w.heap.size+1+1) 0)) 0 0]) (by simp [results,results84,go_sem]) rfl ⟨_,_,rfl,aMb _ _ _ (by omega) (by exact HX.o.1),HX.o.2.drew⟩
theorem vX (pc:Int)(b off cap:Nat)(w:qw):
 qC 95 #[.agg #[qI pc,qS (some (qR b off)) 0 cap]] w (iL w pc 0 []):=by
 obtain ⟨i0,hi,hz0,hz1,hz2⟩:=info_parts jL;go_enter func95,ntmps95
 go_wp2
 go_region
 all_goals
  have hB:qY w ((w.alloc (.cells #[qI pc,qS (some (qR b off)) 0 cap] 38)).alloc (.cells #[qI pc,qS none 0 0] 38)):=bal.alloc (by simp) _;have HX:=zh hB;clear hB;go_wp2;exact bodyPost_ret (v:=.agg #[qI pc,qS none 0 0]) (by simp [results,results95,go_sem]) rfl ⟨_,_,rfl,aOl _ _,HX.o.drew⟩
theorem vY (pc:Int)(b off n cap:Nat)(zs:qi)(w:qw)(h:IS w (some (qR b off)) n cap zs)(hn0:0<n)(hn:n<=1048576):
 qC 95 #[.agg #[qI pc,qS (some (qR b off)) n cap]] w (iL w pc n zs):=by
 obtain ⟨i0,hi,hz0,hz1,hz2⟩:=info_parts jL;have hl:=h.1;have hB0:qY w ((w.alloc (.cells #[qI pc,qS (some (qR b off)) n cap] 38)).alloc (.cells #[qI 0,qS none 0 0] 38)):=bal.alloc (by simp) _;have h':=h.bw hB0;have kr:=Blk.new (w.alloc (.cells #[qI pc,qS (some (qR b off)) n cap] 38)) #[qI 0,qS none 0 0] 38;try unfold qY at *
 simp only [xF] at kr;have hnews:=zh (aAs h');have hone:=zh (ints_oneCell .i64 zs);have hlen:=zh (show (zs.map (Value.int .i64)).length=n*1 by simp;omega);have HB:=zh hB0;have KR:=zh kr;have HH:=zh h;have kb:=(Blk.new w #[qI pc,qS (some (qR b off)) n cap] 38).alloc (.cells #[qI 0,qS none 0 0] 38);have KB:=zh kb;clear hB0 kr h h' kb;go_enter func95,ntmps95
 go_wp2
 go_region_law (first
  | (refine step_append_lies _ rfl _ _ 25 rfl (w.heap.size+1+1) 3 i0 (qI 0) 1 8 underlying25 hi hz0 hz1 hz2 rfl (by decide) (qS none 0 0) 0 [] rfl ⟨rfl,.inl ⟨rfl,rfl⟩⟩ (qR b off) n cap (zs.map (Value.int .i64)) rfl hlen.o (by exact hnews.o) hone.o hn0 (by unfold maxLen;omega) (by omega) (by simp only [heap_drew,xF];omega) _ rfl ?_;intro g cap1 w1 hown1 hgr1 hat1 hlt1;obtain ⟨c1,c2,c3⟩:=(cJ hgr1 (by exact KB.o) (by intro e;cases e)).two';have kr1:=zh (cJ hgr1 (by exact KR.o) (by intro e;cases e));obtain ⟨r1,r2,r3⟩:=kr1.o.two'))
 all_goals
  have hown2:w1.ownsRow (w.heap.size+1+1) 3 1 (qS (qP g) n cap1) n (zs.map (Value.int .i64)):=by simpa using hown1
  have o1:OI w1 (w.heap.size+1+1) (qS (qP g) n cap1) zs:=⟨by rw [hl];exact hown2,HH.o.2.2.1⟩;have hB1:qY w w1:=HB.o.drew.grown hgr1 (by simp only [heap_drew,xF];omega) (fun k hk=>by cases hk);have hz:=(kr1.o.set 0 (qI pc)).set 1 (qS (qP g) n cap1);have o2:=((o1.other (qR (w.heap.size+1) 0) (qI pc) (by dsimp only;omega)).other (qR (w.heap.size+1) 1) (qS (qP g) n cap1) (by dsimp only;omega)).mono (base':=w.heap.size) (by omega);have hB2:=(hB1.setCell (p:=(qR (w.heap.size+1) 0)) (by dsimp only;omega) (qI pc)).setCell (p:=(qR (w.heap.size+1) 1)) (by dsimp only;omega) (qS (qP g) n cap1);have hz':Blk ((w1.setCell (qR (w.heap.size+1) 0) (qI pc)).setCell (qR (w.heap.size+1) 1) (qS (qP g) n cap1)) (w.heap.size+1) #[qI pc,qS (qP g) n cap1] 38:=by simpa using hz
  obtain ⟨p1,p2,p3⟩:=hz'.two';have HX:=zh (xA o2 hB2);clear hz hz' o1 o2 hB1 hB2 hown1 hown2 hgr1 hat1 hlt1;go_wp2;exact bodyPost_ret (v:=.agg #[qI pc,qS (qP g) n cap1]) (by simp [results,results95,go_sem,p1,p2]) rfl ⟨some (qR g 0),cap1,rfl,HX.o.1,HX.o.2⟩
theorem aEh (pc:Int)(b off n cap:Nat)(zs:qi)(w:qw)(h:IS w (some (qR b off)) n cap zs)(hn:n<=1048576):
 qC 84 #[.agg #[qI pc,qS (some (qR b off)) n cap]] w (iL w pc n zs):=by
 by_cases h0:n=0
 .subst h0;obtain rfl:zs=[]:=xE h.1;exact aCp pc b off cap w
 .exact aCq pc b off n cap zs w h (by omega) hn
theorem aA5 (pc:Int)(b off n cap:Nat)(zs:qi)(w:qw)(h:IS w (some (qR b off)) n cap zs)(hn:n<=1048576):
 qC 95 #[.agg #[qI pc,qS (some (qR b off)) n cap]] w (iL w pc n zs):=by
 by_cases h0:n=0
 .subst h0;obtain rfl:zs=[]:=xE h.1;exact vX pc b off cap w
 .exact vY pc b off n cap zs w h (by omega) hn
def upN (n:Nat):List Int:=(List.range n).map (fun i:Nat=>(i:Int))
theorem kZ (n:Nat):(upN n).length=n:=by simp [upN]
theorem aN4 (n k:Nat)(h:k<n):(upN n).getD k 0=(k:Int):=by simp [upN,xB,h]
theorem uV (L:Lay)(a0:qO)(c0:Nat)(xs:List PB)(a2:qO)(c2:Nat)(a5:qO)(c5:Nat)(ts:List TB)(b:Int)(l:Nat)(w:qw)(hb:¬ b=-1)(h0:¬ l=0)(h1:l<=1048576):
 qC 189 #[.agg (qL L a0 xs.length c0 a2 l c2 a5 ts.length c5),qI b] w fun e w'=>∃ g,e=.returned (qS (qP g) l l)/\RowI w' g (upN l)/\qY w w':=by
 obtain ⟨i0,hi,hz0,hz1,hz2⟩:=info_parts jL;have hz:(b == -1)=false:=by simpa using hb
 have hl0:((l:Int)==0)=false:=by simpa using h0
 obtain ⟨W,hW⟩:=eqx (w.alloc (.cells (qL L a0 xs.length c0 a2 l c2 a5 ts.length c5) 71));have HBW:=zh (show qY w W by rw [hW];exact bal);have k0:Blk W w.heap.size (qL L a0 xs.length c0 a2 l c2 a5 ts.length c5) 71:=by rw [hW];exact Blk.new w _ _
 have d2:=k0.e2;have HW:=zh hW;clear hW k0;generalize xs.length=n at *;generalize ts.length=k at *;go_enter func189,ntmps189
 go_wp2_with (first|rw [<- HW.o]|(at_make;refine wpList_make_full _ rfl _ _ 25 rfl W.heap.size 3 i0 (qI 0) 1 underlying25 hi hz0 hz1 .i64 .i64 _ _ l rfl rfl rfl rfl (by rw [hz2];omega) (by unfold maxLen;omega) aN ?_;intro w1 hown hgr))
 have hrow:=iV hown;have hbel:=aV hgr;clear hown hgr hi hz0 hz1 hz2 d2;go_loopw [6,22] (fun _ i wr=>∃ k:Nat,k<=l/\i=qI k/\RowI wr W.heap.size (mid (upN l) k)/\qY W wr) (fun _ i _=>l-(intOf i).toNat)
 .exact ⟨0,xC _,rfl,by rw [sM,kZ];exact hrow,hbel⟩
 .obtain ⟨k,hk,rfl,hR,hB⟩:=hrel;clear hrow hbel;by_cases hlt:k<l
  .have hlt':(k:Int)<(l:Int):=by omega
   have hgk:wr.cell? (qR W.heap.size k)=some (qI ((mid (upN l) k).getD k 0)):=hR.cell k (by rw [aAh,kZ];omega);have hfk:wr.frozen? (qR W.heap.size k)=false:=hR.frozen k;have R':=hR.set k ((upN l).getD k 0);rw [aAg (upN l) k (by rw [kZ];omega),aN4 l k hlt] at R';have B':qY W (wr.setCell (qR W.heap.size k) (qI (k:Int))):=hB.setCell aN _;have HR:=zh R';have HB:=zh B';generalize (mid (upN l) k).getD k 0=z0 at *;clear hR hB R' B';go_wp2
   go_roundw
   .exact ⟨k+1,by omega,by go_num,HR.o,HB.o⟩
   .simp [intOf];omega
  .have e:Zh (k=l):=by show k=l;omega
   have HX:=zh (xA hR hB);clear hR hB;go_wp2;go_ret;refine ⟨_,rfl,?_,HBW.o.trans (HX.o.2.mono HBW.o.size)⟩;have:=HX.o.1;have e2:mid (upN l) l=upN l:=by have:=aAi (upN l);rwa [kZ] at this
   rw [e.o,e2] at this;exact this
