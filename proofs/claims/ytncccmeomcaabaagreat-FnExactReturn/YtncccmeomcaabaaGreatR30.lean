import Derived.Test.YtncccmeomcaabaaGreatR28
import Derived.Test.YtncccmeomcaabaaGreatR29
set_option linter.all false
set_option maxHeartbeats 4000000
namespace Go.Proofs.YtncccmeomcaabaaGreat
open Go.RowKit Classical
open Go.Proofs.Tryz
set_option maxRecDepth 100000
variable {C:Cn}{G g:Nat}{M:Mn}{cs:Array Value}
theorem aFb {P:Program}{f:FuncId}{fn:Func}{c:Code}{args:Array Value}{w:qw}{R:Ending->World->Prop}(hf:P.funcs[f]?=some fn)(hb:fn.body=some c)(h:c.wp P (bodyPost P fn R) { tmps:=args++Array.replicate (fn.ntmps-args.size) undef,defers:=[] } w):Calls P f args w R/\∀ u,CallsD P f args u w fun e u' w'=>u'=u/\R e w':=⟨calls_of_wp hf hb h,fun u=>callsD_of_wp hf hb h⟩
theorem MxO.gm {W W':qw}{base mid:Nat}{Ls:List (PMod×Mb)}{β:Nat->Nat}(h:MxO W base mid C M Ls β)(kb:Blk W G cs 110)(hg:mid<=G)(T:Turn (fun j=>j=G) W W'):MxO W' base mid C M Ls β:=
 ⟨h.upd T (fun j hj=>by subst hj;exact ⟨hg,cs,_,kb,by decide,by decide⟩),h.e,aW T h.k (aT kb h.k.1 (by decide)),dY h.q T (fun j hj=>by
  rcases hj with q|q|q
  .exact aT kb h.q.1.1 (by decide) j q
  .exact aT kb h.q.2.1.1 (by decide) j q
  .exact aT kb h.q.2.2.1.1 (by decide) j q),h.l.kept T (aT kb h.l (by decide)),h.h.kept T (aT kb h.h (by decide)),h.bm,h.bh,h.vs,h.vz⟩
theorem Mg.put {w1 W:qw}{Y:Lyb}{v13 vr:Value}(h:Mg w1 W G Y C M v13 vr)(i:Nat)(v:Value){M':Mn}{C':Cn}{v13' vr':Value}(e:(#[qS M.ma M.mn M.mc,qI M.cs,qI M.cw,qI M.ck,qI M.cd,qI M.pc,qS M.ka M.kn M.kc,qS M.fa M.fn M.fc,qS M.ra M.rn M.rc,qS M.oa M.on M.oc,qI M.md,qI M.bk,qS M.la M.ln M.lc,v13,qI M.tn,qS Y.a0 Y.xs.length Y.c0,qI Y.L.stack,qS Y.a2 Y.L.slots.length Y.c2,qI Y.L.flash,qI Y.L.ram,qS Y.a5 Y.ts.length Y.c5,qI M.cd,qS M.ha M.hn M.hc,vr]:Array Value).setIfInBounds i v=#[qS M'.ma M'.mn M'.mc,qI M'.cs,qI M'.cw,qI M'.ck,qI M'.cd,qI M'.pc,qS M'.ka M'.kn M'.kc,qS M'.fa M'.fn M'.fc,qS M'.ra M'.rn M'.rc,qS M'.oa M'.on M'.oc,qI M'.md,qI M'.bk,qS M'.la M'.ln M'.lc,v13',qI M'.tn,qS Y.a0 Y.xs.length Y.c0,qI Y.L.stack,qS Y.a2 Y.L.slots.length Y.c2,qI Y.L.flash,qI Y.L.ram,qS Y.a5 Y.ts.length Y.c5,qI M'.cd,qS M'.ha M'.hn M'.hc,vr'])(hm:∀ {X:qw} {base mid:Nat} {Ls:List (PMod×Mb)} {β:Nat->Nat},MxO X base mid C M Ls β->MxO X base mid C' M' Ls β):Mg w1 (W.setCell (qR G i) v) G Y C' M' v13' vr':=by
 have T:=aC W G i v;obtain ⟨base,mid,Ls,β,m,h1,h2⟩:=h.m;have k:=h.k.set i v;rw [e] at k;exact ⟨aG h.b T (fun j hj=>by have:=h.g;omega) h.b.size,h.g,k,⟨base,mid,Ls,β,hm (m.gm h.k h2 T),h1,h2⟩,h.l⟩
def gkd (ty:TypeId):Prop:=ty=5\/ty=110\/ty=142\/ty=3
def TGx (W W':qw):Prop:=Turn (fun j=>∃ cs ty,Blk W j cs ty/\gkd ty) W W'
theorem TGx.trans {A B C:qw}(h:TGx A B)(k:TGx B C):TGx A C:=
 ⟨k.os.trans h.os,k.tape.trans h.tape,k.output.trans h.output,xM h.size k.size,fun j hj hs=>by
  have e:=h.block j hj hs
  exact (k.block j (Nat.lt_of_lt_of_le hj h.size) (fun ⟨cs,ty,kb,q⟩=>hs ⟨cs,ty,e.symm.trans kb,q⟩)).trans e⟩
theorem bC {W W':qw}(h:qY W W'):TGx W W':=aJ h
theorem dR {S:Nat->Prop}{W W':qw}(t:Turn S W W')(h:∀ j,S j->∃ cs ty,Blk W j cs ty/\gkd ty):TGx W W':=t.mono h
theorem TGx.blk {W W':qw}{ty:TypeId}(t:TGx W W')(k:Blk W g cs ty)(h:¬ gkd ty):Blk W' g cs ty:=aF t k (fun ⟨c,y,kb,q⟩=>h (by rw [aI k kb];exact q))
def rgR:Rg:=(65536,14,0,false,true,false)
theorem aLu (a:Int)(h0:65536<=a)(h1:a<81920):fN [rgR] a 2 1=true:=by
 have e1:aEx rgR a=true:=by
  unfold aEx rgR hs;simp;omega
 show (if aEx ([rgR].getD 0 z6) a then aKk ([rgR].getD 0 z6) 2 else fN [rgR] a 2 0)=true;rw [show ([rgR].getD 0 z6)=rgR from rfl,e1];rfl
theorem aLv (a:Int)(h0:65536<=a)(h1:a+4<=81920):alw [rgR] 1 a 4 2=true:=by
 have e1:okB [rgR] 1=true:=by decide
 have e2:upB [rgR] a 2 1 (4:Int).toNat=true:=yO.2 (fun i hi=>by
  have hi:i<4:=hi;have:wrap64 (a+i)=a+i:=by unfold wrap64;omega
  rw [this]
  exact aLu _ (by omega) (by omega))
 unfold alw;rw [e1,e2];rfl
theorem aPd {W:qw}(k:Blk W g #[qI 65536,qI 14,qI 0,.bool false,.bool true,.bool false] 214):RS W (qP g) 1 1 [rgR]:=by
 refine ⟨rfl,by decide,fun g hg=>?_,fun _=>⟨g,0,rfl,fun i hi=>?_⟩,aN⟩
 .simp at hg;subst hg;unfold rgR wfi;simp
 .obtain rfl:i=0:=by omega
  exact ⟨k.cell 0,k.cell 1,k.cell 2,k.cell 3,k.cell 4,k.cell 5⟩
theorem aHb (w1:qw)(G:Nat)(Y:Lyb)(C:Cn)(M:Mn)(v13 vr:Value)(w:qw)(h:Mg w1 w G Y C M v13 vr):qC 128 #[.pointer (qP G)] w fun e w'=>e=.returned (.tuple #[])/\∃ g,Mg w1 w' G Y C M v13 (qS (qP g) 1 1)/\Blk w' g #[qI 65536,qI 14,qI 0,.bool false,.bool true,.bool false] 214/\TGx w w':=by
 obtain ⟨V,hV,bV,kV⟩:=nwb w #[qI 65536,qI 14,qI 0,.bool false,.bool true,.bool false] 214;have hv:=h.bw bV;have x23:=hv.k.cell 23;have f23:=hv.k.frozen 23;have hg:G<w.heap.size:=h.k.lt;have HE:Zh (Mg w1 (V.setCell (qR G 23) (qS (qP w.heap.size) 1 1)) G Y C M v13 (qS (qP w.heap.size) 1 1)/\Blk (V.setCell (qR G 23) (qS (qP w.heap.size) 1 1)) w.heap.size #[qI 65536,qI 14,qI 0,.bool false,.bool true,.bool false] 214/\TGx w (V.setCell (qR G 23) (qS (qP w.heap.size) 1 1))):=⟨hv.put 23 _ rfl (fun x=>x),kV.other (qR G 23) (qS (qP w.heap.size) 1 1) (by dsimp only;omega),(bC bV).trans (dR (aC _ G 23 _) (fun j hj=>by subst hj;exact ⟨_,_,hv.k,.inr (.inl rfl)⟩))⟩;have HV:=zh hV;clear hV bV kV hv h;go_enter func128,ntmps128
 go_wp2_with (rw [<- HV.o])
 go_end0
 exact ⟨rfl,w.heap.size,HE.o.1,HE.o.2.1,HE.o.2.2⟩
structure Cz (C:Cn)(L:Lay):Prop where
 l:Lok C.ps L
 n:C.ps.length<=4
 p:0<=pcq C.ps C.md C.bk
 s:hld C.lz C.md C.bk=-1\/(C.bk≠-1/\0<=hld C.lz C.md C.bk/\hld C.lz C.md C.bk<(L.slots.length:Int))
def LwP (w1 w:qw)(G:Nat)(Y:Lyb)(C:Cn)(M:Mn)(v13:Value)(e:Ending)(w':qw):Prop:=e=.returned (.tuple #[])/\∃ A k c,Mg w1 w' G Y C M v13 (qS A k c)/\RS w' A k c (if (plR C.ps Y.L C.md C.bk (hld C.lz C.md C.bk)).length<=8 then plR C.ps Y.L C.md C.bk (hld C.lz C.md C.bk) else [])/\Turn (fun j=>j=G) w w'
theorem oC (w1:qw)(G:Nat)(Y:Lyb)(C:Cn)(M:Mn)(v13 vr:Value)(w:qw)(h:Mg w1 w G Y C M v13 vr)(hz:Cz C Y.L):qC 91 #[.pointer (qP G)] w (LwP w1 w G Y C M v13)/\∀ u,CallsD prog 91 #[.pointer (qP G)] u w fun e u' w'=>u'=u/\LwP w1 w G Y C M v13 e w':=by
 obtain ⟨⟨_,_,_,_,_,e6,e7,_⟩,e9,_⟩:=h.vs;have HPI:=zh (fun (X:qw) (hX:qY w X)=>(aHf w1 G Y C M v13 vr X (h.bw hX)).mono (fun e w' he=>show e=.returned (.agg (qT M.md M.bk 0))/\qY w w' from ⟨he.1,hX.trans (he.2.mono hX.size)⟩));have HSL:=zh (fun (X:qw) (hX:qY w X)=>(aBu w1 G Y C M v13 vr X (h.bw hX)).mono (fun e w' he=>show e=.returned (qI (hld C.lz M.md M.bk))/\qY w w' from ⟨he.1,hX.trans (he.2.mono hX.size)⟩))
 have HPO:=zh (fun (X:qw) (hX:qY w X)=>(rU M.ma M.mn M.mc M.ms Y.L Y.a0 Y.c0 Y.xs Y.a2 Y.c2 Y.a5 Y.c5 Y.ts M.md M.bk 0 (hld C.lz M.md M.bk) X ((h.bw hX).mnd hz.n).m (h.bw hX).ly (by rw [e9];exact hz.l) (by rw [e9,e6,e7];exact hz.p) (by rw [e6,e7];exact hz.s)).mono (fun e w' he=>show ∃ A k c q,e=.returned (.tuple #[qS A k c,.bool q])/\qY w w'/\((w'.setCell (qR G 23) (qS A k c)).cell? (qR G 0)=some (qS M.ma M.mn M.mc)/\(w'.setCell (qR G 23) (qS A k c)).cell? (qR G 15)=some (qS Y.a0 Y.xs.length Y.c0)/\(w'.setCell (qR G 23) (qS A k c)).cell? (qR G 16)=some (qI Y.L.stack)/\(w'.setCell (qR G 23) (qS A k c)).cell? (qR G 17)=some (qS Y.a2 Y.L.slots.length Y.c2)/\(w'.setCell (qR G 23) (qS A k c)).cell? (qR G 18)=some (qI Y.L.flash)/\(w'.setCell (qR G 23) (qS A k c)).cell? (qR G 19)=some (qI Y.L.ram)/\(w'.setCell (qR G 23) (qS A k c)).cell? (qR G 20)=some (qS Y.a5 Y.ts.length Y.c5))/\(w'.cell? (qR G 23)=some vr/\w'.frozen? (qR G 23)=false)/\LwP w1 w G Y C M v13 (.returned (.tuple #[])) (w'.setCell (qR G 23) (qS A k c)) from by
  obtain ⟨A,k,c,he,ho,hb⟩:=he;have hB:=hX.trans (hb.mono hX.size);have hg:=(h.bw hB);rw [e9,e6,e7] at ho;refine ⟨A,k,c,_,he,hB,⟨(hg.put 23 (qS A k c) (vr':=qS A k c) rfl (fun x=>x)).k.cell 0,(hg.put 23 (qS A k c) (vr':=qS A k c) rfl (fun x=>x)).k.cell 15,(hg.put 23 (qS A k c) (vr':=qS A k c) rfl (fun x=>x)).k.cell 16,(hg.put 23 (qS A k c) (vr':=qS A k c) rfl (fun x=>x)).k.cell 17,(hg.put 23 (qS A k c) (vr':=qS A k c) rfl (fun x=>x)).k.cell 18,(hg.put 23 (qS A k c) (vr':=qS A k c) rfl (fun x=>x)).k.cell 19,(hg.put 23 (qS A k c) (vr':=qS A k c) rfl (fun x=>x)).k.cell 20⟩,⟨hg.k.cell 23,hg.k.frozen 23⟩,rfl,A,k,c,hg.put 23 _ rfl (fun x=>x),?_,(aJ hB).trans (aC _ G 23 _)⟩;have T:=aC w' G 23 (qS A k c);refine eZ (eV T ho (fun j hj e=>?_));subst e;have h1:=(World.ownsRow.lt ho.1 _ hj).1;have h2:=h.k.lt;have h3:=hX.size
  omega))
 have HC:=zh (fun (X:qw) (hX:qY w X)=>show X.cell? (qR G 0)=some (qS M.ma M.mn M.mc)/\X.cell? (qR G 15)=some (qS Y.a0 Y.xs.length Y.c0)/\X.cell? (qR G 16)=some (qI Y.L.stack)/\X.cell? (qR G 17)=some (qS Y.a2 Y.L.slots.length Y.c2)/\X.cell? (qR G 18)=some (qI Y.L.flash)/\X.cell? (qR G 19)=some (qI Y.L.ram)/\X.cell? (qR G 20)=some (qS Y.a5 Y.ts.length Y.c5) from ⟨(h.bw hX).k.cell 0,(h.bw hX).k.cell 15,(h.bw hX).k.cell 16,(h.bw hX).k.cell 17,(h.bw hX).k.cell 18,(h.bw hX).k.cell 19,(h.bw hX).k.cell 20⟩);generalize hld C.lz M.md M.bk=s at *;obtain ⟨x0,x15,x16,x17,x18,x19,x20⟩:=HC.o w brf;clear h hz e6 e7 e9;refine aFb func91 rfl ?_;simp only [ntmps91,List.size_toArray,List.length_cons,List.length_nil,Nat.reduceAdd,Nat.reduceSub,Array.replicate_succ,Array.replicate_zero,List.push_toArray,List.append_toArray,List.nil_append,List.cons_append];go_wp2_with fail
 go_region_held3 (fun w'=>w'.cell? (qR G 0)=some (qS M.ma M.mn M.mc)/\w'.cell? (qR G 15)=some (qS Y.a0 Y.xs.length Y.c0)/\w'.cell? (qR G 16)=some (qI Y.L.stack)/\w'.cell? (qR G 17)=some (qS Y.a2 Y.L.slots.length Y.c2)/\w'.cell? (qR G 18)=some (qI Y.L.flash)/\w'.cell? (qR G 19)=some (qI Y.L.ram)/\w'.cell? (qR G 20)=some (qS Y.a5 Y.ts.length Y.c5)) (go_keep)
  (first
    | (go_at_call 162;refine (HPI.o _ (by first|exact brf|exact brf.drew|exact hbs)).mono ?_
       rintro e w2 ⟨rfl,hbp⟩
       obtain ⟨p0,p15,p16,p17,p18,p19,p20⟩:=HC.o w2 hbp)
    | (go_at_call 131;refine (HSL.o _ (by first|exact brf|exact brf.drew|exact hbp)).mono ?_
       rintro e w3 ⟨rfl,hbs⟩
       obtain ⟨s0,s15,s16,s17,s18,s19,s20⟩:=HC.o w3 hbs)
    | (go_at_call 161;first
        | with_reducible refine (HPO.o _ hbs).mono ?_
        | with_reducible refine (HPO.o _ hbp).mono ?_
       rintro e w4 ⟨A,k,c,q,rfl,hb4,⟨m0,m15,m16,m17,m18,m19,m20⟩,⟨y23,yf⟩,hE⟩;obtain ⟨q0,q15,q16,q17,q18,q19,q20⟩:=HC.o w4 hb4;have HE:=zh hE
       clear hE))
 all_goals
  go_wp2
  go_end0
  exact HE.o
theorem lP (x:qO)(n cap:Nat)(rs:List Rg)(w:qw)(h:RS w x n cap rs)(F:Bool)(hF:F=(decide (n<=8)&&okB rs n)):
 qC 241 #[qS x n cap] w (qB w (.bool F)):=by
 have hl:=h.1;have hmx:=h.2.1;unfold maxLen at hmx;have HF:=zh hF;clear hF;by_cases h8:8<n
 .have h8':(8:Int)<(n:Int):=by omega
  go_enter func241,ntmps241
  go_wp2;go_ret;exact ⟨aA (by rw [HF.o];simp [show ¬ n<=8 by omega]),brf⟩
 .have h8':¬ (8:Int)<(n:Int):=by omega
  go_enter func241,ntmps241
  go_wp2;go_loopw [10] (fun i wr=>∃ j:Nat,j<=n/\i=qI j/\aCb rs j/\qY w wr) (qf n)
  .exact ⟨0,xC _,rfl,fun i hi=>absurd hi (by omega),brf⟩
  .obtain ⟨j,hj,rfl,hok,hB⟩:=hrel;by_cases hlt:j<n
   .obtain ⟨b,off,rfl⟩:=h.some (by omega);have hin:(j:Int)<(n:Int):=by omega
    have hbw:b<wr.heap.size:=xD wr _ ((h.bw hB).at j hlt).1;have hat:=(h.bw hB).at j hlt;have HOK:=zh hok;clear hok;have hw1:=h.2.2.1 (rs.getD j z6) (by simp [xB,show j<rs.length by omega]);have hbad:gok (rs.getD j z6)=false->okB rs n=false:=aHj hlt;have hgood:gok (rs.getD j z6)=true->aCb rs (j+1):=aHi HOK.o;have HBAD:=zh hbad;have HGOOD:=zh hgood;clear hbad hgood;generalize rs.getD j z6=g at *;obtain ⟨g1,g2,g3,g4,g5,g6⟩:=g;have hw:=wfl hw1.1;clear hw1;have q1:=hat.1;have q2:=hat.2.1;have q3:=hat.2.2.1;have q4:=hat.2.2.2.1;have q5:=hat.2.2.2.2.1;have q6:=hat.2.2.2.2.2;simp only at q1 q2 q3 q4 q5 q6;have hBw:qY w wr:=hB;have hsz:=hB.size;go_wp2_with fail
    refine (lT g1 g2 g3 g4 g5 g6 _ hw).mono ?_;rintro e w1 ⟨rfl,hb1⟩;have hB1:=(hB.alloc hB.size (.cells #[qI g1,qI g2,qI g3,.bool g4,.bool g5,.bool g6] 214)).trans (hb1.mono (by simp;omega));cases hr:rok g1 g2 g3
    .have H1:=zh (HBAD.o hr);clear hr HBAD HGOOD;go_wp2;go_ret;exact ⟨aA (by rw [HF.o,H1.o];simp),hB1⟩
    .have H1:=zh (HGOOD.o hr);clear hr HBAD HGOOD;go_wp2
     go_roundw
     .exact ⟨j+1,by omega,by go_num,H1.o,hB1⟩
     .simp [qf,intOf];omega
   .have hjn:j=n:=by omega
    subst hjn;have HOK:=zh (mU.2 hok);clear hok;go_wp2;go_ret;exact ⟨aA (by rw [HF.o,HOK.o];simp;omega),hB⟩
theorem vP (x:qO)(j cap:Nat)(rs:List Rg)(a s k:Int)(w:qw)(h:RS w x j cap rs)(hn:j<=8)(hs:wd s=true)(hok:aCb rs j)(ha:wfi a)(F:Bool)(hF:F=(okB rs j&&upB rs a k j s.toNat)):
 qC 222 #[qS x j cap,qI a,qI s,qI k] w (qB w (.bool F)):=by
 have hl:=h.1;obtain ⟨ha0,ha1⟩:=ha;have hs4:1<=s/\s<=4:=by have:=hs;simp [wd] at this;omega
 obtain ⟨hs1,hs4⟩:=hs4;have HS:=zh hs;have HF:=zh hF;have HOK:=zh hok;clear hs hF hok;go_enter func222,ntmps222
 go_wp2_with fail
 refine (gS s _).mono ?_;rw [HS.o];rintro e w2 ⟨rfl,rfl⟩;go_wp2_with fail
 refine (lP x j cap rs _ h true (by rw [mU.2 HOK.o];simp;omega)).mono ?_;rintro e w0 ⟨rfl,hB⟩;go_wp2;go_loopw [19] (fun i wr=>∃ m:Nat,(m:Int)<=s/\i=qI m/\aGt rs a k j m/\qY w wr) (qf s.toNat)
 .exact ⟨0,by omega,rfl,fun i hi=>absurd hi (by omega),hB⟩
 .obtain ⟨m,hm,rfl,hup,hB⟩:=hrel;by_cases hlt:(m:Int)<s
  .have hbad:fN rs (wrap64 (a+m)) k j=false->upB rs a k j s.toNat=false:=aGu (by omega);have hgood:fN rs (wrap64 (a+m)) k j=true->aGt rs a k j (m+1):=aGs hup;have HBAD:=zh hbad;have HGOOD:=zh hgood;have HUP:=zh hup;clear hbad hgood hup;go_wp2_with fail
   refine (aLd x j cap rs _ k _ (h.bw hB) (aJm hl HOK.o) (aIa _) hn).mono ?_;generalize fN rs (wrap64 (a+m)) k j=r at *;rintro e w1 ⟨rfl,hb1⟩;have hB1:=hB.trans (hb1.mono hB.size);cases r
   .have H1:=zh (HBAD.o rfl);clear HBAD HGOOD;go_wp2;go_ret;exact ⟨aA (by rw [HF.o,H1.o];simp),hB1⟩
   .have H1:=zh (HGOOD.o rfl);clear HBAD HGOOD;go_wp2
    go_roundw
    .exact ⟨m+1,by omega,by go_num,H1.o,hB1⟩
    .simp [qf,intOf];omega
  .have hms:s.toNat=m:=by omega
   have HM:=zh (yO.2 hup);rw [<- hms] at HM;have HUP:=zh hup;clear hup hms;go_wp2;go_ret;exact ⟨aA (by rw [HF.o,HM.o];rw [mU.2 HOK.o];rfl),hB⟩
theorem nB (x:qO)(n cap:Nat)(rs:List Rg)(a s k:Int)(w:qw)(h:RS w x n cap rs)(hb:wd s=false\/(decide (n<=8)&&okB rs n)=false):
 qC 222 #[qS x n cap,qI a,qI s,qI k] w (qB w (.bool false)):=by
 cases hs:wd s
 .clear hb;go_enter func222,ntmps222
  go_wp2_with fail
  refine (gS s _).mono ?_;rw [hs];rintro e w2 ⟨rfl,rfl⟩;go_wp2;go_ret;exact ⟨rfl,brf⟩
 .have hb:=zh (show false=(decide (n<=8)&&okB rs n) by rcases hb with hb|hb;rw [hs] at hb;simp at hb;exact hb.symm);go_enter func222,ntmps222
  go_wp2_with fail
  refine (gS s _).mono ?_;rw [hs];rintro e w2 ⟨rfl,rfl⟩;go_wp2_with fail
  refine (lP x n cap rs _ h false hb.o).mono ?_;rintro e w0 ⟨rfl,hB⟩;go_wp2;go_ret;exact ⟨rfl,hB⟩
theorem aAu (x:qO)(n cap:Nat)(rs:List Rg)(a s k:Int)(w:qw)(h:RS w x n cap rs)(ha:wfi a):
 qC 222 #[qS x n cap,qI a,qI s,qI k] w (qB w (.bool (alw rs n a s k))):=by
 cases hs:wd s
 .have hf:alw rs n a s k=false:=by simp [alw,hs]
  rw [hf];exact nB x n cap rs a s k w h (Or.inl hs)
 .cases hr:(decide (n<=8)&&okB rs n)
  .have hf:alw rs n a s k=false:=by
    unfold alw;cases h8:decide (n<=8)
    .rfl
    .rw [h8] at hr;simp at hr;simp [hr]
   rw [hf];exact nB x n cap rs a s k w h (Or.inr hr)
  .simp at hr;exact vP x n cap rs a s k w h hr.1 hs (mU.1 hr.2) ha _ (by simp [alw,hs,hr.1])
theorem rM (a:qO)(n c:Nat)(xs:List SlT)(w:qw)(h:QS bR zSl w a n c xs):
 qC 177 #[qS a n c] w (qB w (qI (lst xs n:Nat))):=by
 have hl:=h.1;have hmx:=h.2.1;unfold maxLen at hmx;go_enter func177,ntmps177
 go_wp2;go_loopw [3,8] (fun l i wr=>∃ k p:Nat,k<=n/\i=qI k/\l=qI p/\Hid (p=lst xs k)/\qY w wr) (fun _ i _=>n-(intOf i).toNat)
 .exact ⟨0,0,xC _,rfl,rfl,zh rfl,brf⟩
 .obtain ⟨k,p,hk,rfl,rfl,HP,hB⟩:=hrel;by_cases hlt:k<n
  .have hlt':(k:Int)<(n:Int):=by omega
   have hp:p<n:=by have:=sY xs k;rw [<- HP.out] at this;omega
   have hp':(p:Int)<(n:Int):=by omega
   have hp0:(0:Int)<=(p:Int):=by omega
   obtain ⟨g,f,rfl,q0,q1,q2,q3⟩:=(h.bw hB).at k hlt _ _ _ _ rfl;obtain ⟨g',f',e',_,_,_,r3⟩:=(h.bw hB).at p hp _ _ _ _ rfl;cases e'
   have HS:=zh (show lst xs (k+1)=if (xs.getD k zSl).2.2.2<(xs.getD p zSl).2.2.2 then k else p from by rw [HP.out];rfl);have HBB:=zh (xA hB h);generalize xs.getD k zSl=x at *;generalize (xs.getD p zSl).2.2.2=y at *;obtain ⟨x0,x1,x2,x3⟩:=x;dsimp only at q0 q1 q2 q3 HS;obtain ⟨V,hV,bV,kV⟩:=nwb wr #[.bool x0,qI x1,qI x2,qI x3] 142;have v3:=kV.e3;have u3:V.cell? (qR g (f+p*4+3))=some (qI y):=aGj bV r3;have HB:=zh (hB.trans (bV.mono hB.size));have HV:=zh hV;clear h hB hV bV kV r3;by_cases c1:x3<y
   .have HN:=zh (show lst xs (k+1)=k by rw [HS.o,if_pos c1]);clear HS;go_wp2_with (rw [<- HV.o])
    clear q0 q1 q2 q3
    go_region_held3 (fun w'=>w'.cell? (qR wr.heap.size 3)=some (qI x3)/\w'.cell? (qR g (f+p*4+3))=some (qI y)) (go_keep) (fail)
    all_goals
     go_wp2
     go_roundw
     .exact ⟨k+1,k,by omega,by go_num,rfl,zh HN.o.symm,by first|exact HB.o.drew|exact HB.o⟩
     .simp [intOf];omega
   .have HN:=zh (show lst xs (k+1)=p by rw [HS.o,if_neg c1]);clear HS;go_wp2_with (rw [<- HV.o])
    clear q0 q1 q2 q3
    go_region_held3 (fun w'=>w'.cell? (qR wr.heap.size 3)=some (qI x3)/\w'.cell? (qR g (f+p*4+3))=some (qI y)) (go_keep) (fail)
    all_goals
     go_wp2
     go_roundw
     .exact ⟨k+1,p,by omega,by go_num,rfl,zh HN.o.symm,by first|exact HB.o.drew|exact HB.o⟩
     .simp [intOf];omega
  .obtain rfl:k=n:=by omega
   have HB:=zh hB;clear hB;go_wp2;go_ret;exact ⟨aH (by rw [HP.out]),HB.o⟩
theorem aEd (a:qO)(n c:Nat)(xs:List SlT)(m b t:Int)(w:qw)(h:QS bR zSl w a n c xs)(hv:Tnz xs):
 qC 117 #[qS a n c,.agg (qT m b t)] w (qB w (qI (slq xs m b:Nat))):=by
 have hl:=h.1;have hmx:=h.2.1;unfold maxLen at hmx;obtain ⟨V,hV,bV,kV⟩:=nwb w (qT m b t) 58;have HHL:=zh (pA a n c xs m b V (h.bw bV));have HR:=zh (fZ xs m b);have HQ:=zh (show slq xs m b=if hld xs m b=-1 then lst xs n else (hld xs m b).toNat from by unfold slq;rw [hl]);generalize hld xs m b=r at *;generalize hs:slq xs m b=s at *;have x0:=kV.cell 0;have x1:=kV.cell 1;have HV:=zh hV;have HBV:=zh bV;clear hV bV kV hs;go_enter func117,ntmps117
 go_wp2_with (rw [<- HV.o])
 refine HHL.o.mono ?_;rintro e X1 ⟨rfl,hb1⟩;have HB1:=zh (HBV.o.trans (hb1.mono HBV.o.size));clear x0 x1 hb1 HHL HV HBV;by_cases c1:0<=r
 .have HE:=zh (show r=(s:Nat) by rw [HQ.o,if_neg (by omega)];omega);go_wp2;go_ret;exact ⟨aH HE.o,HB1.o⟩
 have HE:=zh (show s=lst xs n by rw [HQ.o,if_pos (by have:=HR.o;omega)]);clear HQ HR;go_wp2_with fail
 go_loopw [5,6] (fun q i wr=>∃ k p:Nat,k<=n/\i=qI k/\q=qI p/\Hid (p=lst xs k)/\Hid (∀ j,j<k->(xs.getD j zSl).1=true)/\qY w wr) (fun _ i _=>n-(intOf i).toNat)
 .exact ⟨0,0,xC _,rfl,rfl,zh rfl,zh (fun j hj=>by omega),HB1.o⟩
 .obtain ⟨k,p,hk,rfl,rfl,HP,HU,hB⟩:=hrel;clear HB1;by_cases hlt:k<n
  .have hlt':(k:Int)<(n:Int):=by omega
   have hp:p<n:=by have:=sY xs k;rw [<- HP.out] at this;omega
   have hp':(p:Int)<(n:Int):=by omega
   have hp0:(0:Int)<=(p:Int):=by omega
   obtain ⟨g,f,rfl,q0,q1,q2,q3⟩:=(h.bw hB).at k hlt _ _ _ _ rfl;obtain ⟨g',f',e',_,_,_,r3⟩:=(h.bw hB).at p hp _ _ _ _ rfl;cases e'
   have HS:=zh (show lst xs (k+1)=if (xs.getD k zSl).2.2.2<(xs.getD p zSl).2.2.2 then k else p from by rw [HP.out];rfl);have HFR:=zh (fun (e:(xs.getD k zSl).1=false)=>show lst xs n=k from by rw [<- hl];exact aJ6 hv (by omega) e HU.out)
   have HUN:=zh (fun (e:(xs.getD k zSl).1=true)=>show ∀ j,j<k+1->(xs.getD j zSl).1=true from fun j hj=>by
    by_cases q:j=k
    .rw [q];exact e
    .exact HU.out j (by omega))
   generalize xs.getD k zSl=x at *;generalize (xs.getD p zSl).2.2.2=y at *;obtain ⟨x0,x1,x2,x3⟩:=x;dsimp only at q0 q1 q2 q3 HS HFR HUN;have HB:=zh hB;clear h hB hv;cases x0 with
   | false=>
     have HN:=zh (show s=k by rw [HE.o,HFR.o rfl]);clear HFR HUN HS;go_wp2;go_ret;exact ⟨aH (by rw [HN.o]),HB.o⟩
   | true=>
     have HN:=zh (HUN.o rfl);clear HFR HUN;by_cases c1:x3<y
     .have HM:=zh (show lst xs (k+1)=k by rw [HS.o,if_pos c1]);clear HS;go_wp2_with fail
      go_region_held3 (fun w'=>w'.cell? (qR g (f+k*4+3))=some (qI x3)/\w'.cell? (qR g (f+p*4+3))=some (qI y)) (go_keep) (fail)
      all_goals
       go_wp2
       go_roundw
       .exact ⟨k+1,k,by omega,by go_num,rfl,zh HM.o.symm,HN,by first|exact HB.o.drew|exact HB.o⟩
       .simp [intOf];omega
     .have HM:=zh (show lst xs (k+1)=p by rw [HS.o,if_neg c1]);clear HS;go_wp2_with fail
      go_region_held3 (fun w'=>w'.cell? (qR g (f+k*4+3))=some (qI x3)/\w'.cell? (qR g (f+p*4+3))=some (qI y)) (go_keep) (fail)
      all_goals
       go_wp2
       go_roundw
       .exact ⟨k+1,p,by omega,by go_num,rfl,zh HM.o.symm,HN,by first|exact HB.o.drew|exact HB.o⟩
       .simp [intOf];omega
  .obtain rfl:k=n:=by omega
   have HB:=zh hB;clear hB;go_wp2;go_ret;exact ⟨aH (by rw [HE.o,HP.out]),HB.o⟩
