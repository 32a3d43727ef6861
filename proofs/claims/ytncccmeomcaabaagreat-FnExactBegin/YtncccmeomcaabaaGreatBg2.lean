import Derived.Deep.RegionHeld3
import Derived.Test.YtncccmeomcaabaaGreatC15
import Derived.Test.YtncccmeomcaabaaGreatBg1
set_option linter.all false
set_option maxHeartbeats 4000000
namespace Go.Proofs.YtncccmeomcaabaaGreat
open Go.RowKit Classical
set_option maxRecDepth 100000
section
variable {W W':qw}{base mid:Nat}{C:Cn}{M:Mn}{Ls:List (PMod×Mb)}{β:Nat->Nat}
theorem MxO.hfr (h:MxO W base mid C M Ls β){a:qO}{n c:Nat}{z:List FrT}(q:OG 135 4 bC W mid (qS a n c) z):MxO W base mid { C with hz:=z } { M with ha:=a,hn:=n,hc:=c,hz:=z } Ls β:=⟨h.m,h.e,h.k,h.q,h.l,q,h.bm,h.bh,h.vs,⟨h.vz.1,h.vz.2.1,h.vz.2.2.1,h.vz.2.2.2.1,h.vz.2.2.2.2.1,h.vz.2.2.2.2.2.1,rfl⟩⟩
theorem MxO.oot (h:MxO W base mid C M Ls β){a:qO}{n c:Nat}{z:qi}(q:OB W mid (qS a n c) z)(hq:∀ k j,(qS M.fa M.fn M.fc).ownBlock=some k\/(qS M.ra M.rn M.rc).ownBlock=some k->(qS a n c).ownBlock=some j->k<j):MxO W base mid { C with oz:=z } { M with oa:=a,on:=n,oc:=c,oz:=z } Ls β:=⟨h.m,h.e,h.k,⟨h.q.1,h.q.2.1,q,h.q.2.2.2.1,fun k j e f=>hq k j (.inl e) f,fun k j e f=>hq k j (.inr e) f⟩,h.l,h.h,h.bm,h.bh,h.vs,⟨h.vz.1,h.vz.2.1,h.vz.2.2.1,h.vz.2.2.2.1,rfl,h.vz.2.2.2.2.2⟩⟩
theorem MxO.rgs (h:MxO W base mid C M Ls β){a:qO}{n c:Nat}{z:qi}(q:OI W mid (qS a n c) z):MxO W base mid { C with kz:=z } { M with ka:=a,kn:=n,kc:=c,kz:=z } Ls β:=⟨h.m,h.e,q,h.q,h.l,h.h,h.bm,h.bh,h.vs,⟨h.vz.1,rfl,h.vz.2.2⟩⟩
theorem MxO.ram (h:MxO W base mid C M Ls β){gr:Nat}(e:M.ra=some (qR gr 0))(T:Turn (fun j=>j=gr) W W'){R:qi}(q:OB W' mid (qS M.ra M.rn M.rc) R):MxO W' base mid { C with rz:=R } { M with rz:=R } Ls β:=by
 have mq:=h.q;rw [e] at mq q;obtain ⟨cs,kb⟩:=aD mq.2.1.1 (k:=gr) rfl;have hz:=h.vz.2.2.2.2.1
 have q3:gK W' mid (qS M.fa M.fn M.fc) (qS M.ra M.rn M.rc) (qS M.oa M.on M.oc) C.fz R C.oz:=by
  rw [e];exact ⟨aU T mq.1 (fun k hk (s:k=gr)=>by have:=mq.2.2.2.1 k gr hk rfl;omega),q,aU T mq.2.2.1 (fun k hk (s:k=gr)=>by have:=mq.2.2.2.2.2 gr k rfl hk;omega),mq.2.2.2⟩
 have m2:=h.mem T (fun j hj=>by subst hj;exact ⟨(mq.2.1.lt _ rfl).1,cs,_,kb,.inl rfl⟩) q3;rw [<- hz] at m2;exact ⟨m2.m,m2.e,m2.k,q3,m2.l,m2.h,m2.bm,m2.bh,m2.vs,⟨m2.vz.1,m2.vz.2.1,m2.vz.2.2.1,rfl,hz,m2.vz.2.2.2.2.2⟩⟩
end
theorem ob_nil (W:qw)(b:Nat):OB W b (qS none 0 0) []:=⟨⟨rfl,.inl ⟨rfl,rfl⟩⟩,fun _ h=>by cases h⟩
theorem ob_form {W:qw}{b n c:Nat}{a:qO}{z:qi}(h:OB W b (qS a n c) z):n=z.length/\n<=c/\((a=none/\n=0/\c=0)\/∃ g,a=qP g):=by
 obtain ⟨hl,⟨e,e'⟩|⟨g,cap,cur,e,_,_,h1,_⟩⟩:=h.1
 .simp at e;exact ⟨by omega,by omega,.inl e⟩
 .simp at e;exact ⟨e.2.1,by omega,.inr ⟨g,e.1⟩⟩
theorem Mg.ram {w1 W:qw}{G:Nat}{Y:Lyb}{C:Cn}{M:Mn}{v13 vr:Value}(h:Mg w1 W G Y C M v13 vr){gr:Nat}(e:M.ra=some (qR gr 0)){P:World->Prop}{R:qi}(q:∀ mid,OB W mid (qS (qP gr) M.rn M.rc) C.rz->∃ W',P W'/\OB W' mid (qS (qP gr) M.rn M.rc) R/\Turn (fun j=>j=gr) W W'):∃ W',P W'/\Mg w1 W' G Y { C with rz:=R } { M with rz:=R } v13 vr/\TGx W W':=by
 obtain ⟨base,mid,Ls,β,mm,q1,q2⟩:=h.m;have mq:=mm.q.2.1;rw [e] at mq;obtain ⟨cs,kb⟩:=aD mq.1 (k:=gr) rfl;obtain ⟨W',p,o,T⟩:=q mid mq;have lo:=(mq.lt gr rfl).1;have bm:=mm.bm;exact ⟨W',p,⟨aG h.b T (fun j hj=>by omega) h.b.size,h.g,aF T h.k (fun s=>by have s':G=gr:=s;have k:=h.k;rw [s'] at k;exact absurd (aH kb k) (by decide)),⟨base,mid,Ls,β,mm.ram e T (by rw [e];exact o),q1,q2⟩,h.l⟩,dT T (fun j hj=>by subst hj;exact ⟨_,_,kb,.inl rfl⟩)⟩
theorem Mg.rgs {w1 W:qw}{G g:Nat}{Y:Lyb}{C:Cn}{M:Mn}{v13 vr:Value}{z:qi}(h:Mg w1 W G Y C M v13 vr)(q:OI W g (qS (qP g) 8 8) z)(hg:G<g):Mg w1 (W.setCell (qR G 6) (qS (qP g) 8 8)) G Y { C with kz:=z } { M with ka:=qP g,kn:=8,kc:=8,kz:=z } v13 vr:=by
 obtain ⟨base,mid,Ls,β,m,h1,h2⟩:=h.m;have T:=aC W G 6 (qS (qP g) 8 8);exact ⟨aG h.b T (fun j hj=>by have:=h.g;omega) h.b.size,h.g,h.k.set 6 (qS (qP g) 8 8),⟨base,mid,Ls,β,(m.rgs (q.mono (by omega))).gm h.k h2 T,h1,h2⟩,h.l⟩
theorem Mg.tg {w1 W:qw}{G:Nat}{Y:Lyb}{C:Cn}{M:Mn}{v13 vr:Value}(h:Mg w1 W G Y C M v13 vr)(i:Nat)(v:Value):TGx W (W.setCell (qR G i) v):=dT (aC _ G i _) (fun j hj=>by subst hj;exact ⟨_,_,h.k,.inr (.inl rfl)⟩)
theorem empty_any (G:Nat)(w:qw)(u:Value)(h:w.cell? (qR G 22)=some u)(hf:w.frozen? (qR G 22)=false):qC 127 #[.pointer (some (qR G 21))] w fun e w'=>e=.returned (.tuple #[])/\w'=w.setCell (qR G 22) (qS none 0 0):=by
 go_enter Tryz.func127,Tryz.ntmps127
 go_wp2
 go_end0
 exact ⟨rfl,rfl⟩
theorem forget_any (w1:qw)(G:Nat)(Y:Lyb)(C:Cn)(M:Mn)(v13 vr:Value)(w:qw)(h:Mg w1 w G Y C M v13 vr)(hv:Cv C Y.L):qC 65 #[.pointer (qP G)] w fun e w'=>e=.returned (.tuple #[])/\(∃ M',Mg w1 w' G Y (fgA C Y.L) M' v13 vr)/\TGx w w':=by
 obtain ⟨⟨s0,s1,s2⟩,s3,_⟩:=hv.st;have HEM:=zh (empty_any G w _ (h.k.cell 22) (h.k.frozen 22));obtain ⟨V,hV⟩:=eqx (w.setCell (qR G 22) (qS none 0 0));have h1:Mg w1 V G Y { C with hz:=[] } { M with ha:=none,hn:=0,hc:=0,hz:=[] } v13 vr:=by rw [hV];exact h.put 22 _ rfl (fun x=>x.hfr (fL _ _ _ _ _))
 have t1:TGx w V:=by rw [hV];exact h.tg 22 _
 have y9:=h1.k.e9;have f9:=h1.k.frozen 9;obtain ⟨V2,hV2⟩:=eqx (V.setCell (qR G 9) (qS none 0 0));have h2:Mg w1 V2 G Y { C with hz:=[],oz:=[] } { M with ha:=none,hn:=0,hc:=0,hz:=[],oa:=none,on:=0,oc:=0,oz:=[] } v13 vr:=by rw [hV2];exact h1.put 9 _ rfl (fun x=>x.oot (ob_nil _ _) (fun k j _ f=>by cases f))
 have t2:TGx w V2:=t1.trans (by rw [hV2];exact h1.tg 9 _);have hob:∃ mid,OB w mid (qS M.ra M.rn M.rc) C.rz:=by obtain ⟨_,mid,_,_,mm,_⟩:=h.m;exact ⟨mid,mm.q.2.1⟩
 obtain ⟨_,hob⟩:=hob;obtain ⟨n1,n2,n3⟩:=ob_form hob;obtain ⟨F,hF⟩:=eqx (Y.L.stack-65536).toNat;obtain ⟨E,hE⟩:=eqx (dB Y.L-65536).toNat;have HK:Zh ((dB Y.L-Y.L.stack).toNat=E-F):=by show _=_;omega
 have hwf:IntKind.i64.wrap (Y.L.stack-65536)=(F:Int):=by rw [xP,xQ _ (by omega)];omega
 have hwe:IntKind.i64.wrap (dB Y.L-65536)=(E:Int):=by rw [xP,xQ _ (by omega)];omega
 have hFE:(F:Int)<=(E:Int):=by omega
 have hER:(E:Int)<=(M.rc:Int):=by omega
 have HCL:Zh (∀ X,qY V2 X->∃ X',(∀ (ty:TypeId) (c:Nat) (a:qO),E-F=0\/(∃ gr,M.ra=some (qR gr 0)/\a=some (qR gr F))->(Builtin.clear_ #[28] ty #[qS a (E-F) c]).run Tryz.prog X=.ok (.tuple #[]) X')/\(∃ R,Mg w1 X' G Y (fgA C Y.L) { M with ha:=none,hn:=0,hc:=0,hz:=[],oa:=none,on:=0,oc:=0,oz:=[],rz:=R } v13 vr)/\TGx w X'):=fun X hX=>by
  have g2:=h2.bw hX;have tx:=t2.trans (bD hX);by_cases c0:E-F=0
  .have e:fgA C Y.L={ C with hz:=[],oz:=[] }:=by unfold fgA;rw [HK.o,c0,show ovr C.rz _ (List.replicate 0 0)=C.rz by simp [ovr]]
   exact ⟨X,fun ty c a _=>by rw [c0];exact clear_none X ty a c,⟨M.rz,by rw [e];exact g2⟩,tx⟩
  .obtain ⟨gr,hgr⟩:=(n3.resolve_left (fun q=>by omega));obtain ⟨X',p,m',t'⟩:=g2.ram (P:=fun X'=>∀ (ty:TypeId) (c:Nat),(Builtin.clear_ #[28] ty #[qS (some (qR gr F)) (E-F) c]).run Tryz.prog X=.ok (.tuple #[]) X') (R:=ovr C.rz F (List.replicate (E-F) 0)) (show M.ra=_ from hgr) (fun mid o=>clear_run o (E-F) (show F+(E-F)<=M.rn by omega) c0);have e:fgA C Y.L={ C with hz:=[],oz:=[],rz:=ovr C.rz F (List.replicate (E-F) 0) }:=by unfold fgA;rw [HK.o,<- hF]
   refine ⟨X',fun ty c a q=>?_,⟨_,by rw [e];exact m'⟩,tx.trans t'⟩;obtain ⟨gr',e1,rfl⟩:=q.resolve_left c0;rw [hgr] at e1;obtain rfl:gr=gr':=by simpa using e1
   exact p ty c
 have HSE:=zh (fun (X:qw) (hX:qY V2 X)=>(aAg Y.L Y.a0 Y.c0 Y.xs Y.a2 Y.c2 Y.a5 Y.c5 Y.ts X (h2.bw hX).ly).mono (fun e w' he=>show e=.returned (qI (dB Y.L))/\qY V2 w' from ⟨he.1,hX.trans (he.2.mono hX.size)⟩))
 have HC:=zh (fun (X:qw) (C':Cn) (R:qi) (m:Mg w1 X G Y C' { M with ha:=none,hn:=0,hc:=0,hz:=[],oa:=none,on:=0,oc:=0,oz:=[],rz:=R } v13 vr)=>show X.cell? (qR G 8)=some (qS M.ra M.rn M.rc)/\X.cell? (qR G 15)=some (qS Y.a0 Y.xs.length Y.c0)/\X.cell? (qR G 16)=some (qI Y.L.stack)/\X.cell? (qR G 17)=some (qS Y.a2 Y.L.slots.length Y.c2)/\X.cell? (qR G 18)=some (qI Y.L.flash)/\X.cell? (qR G 19)=some (qI Y.L.ram)/\X.cell? (qR G 20)=some (qS Y.a5 Y.ts.length Y.c5) from by
  have k:=m.k
  exact ⟨k.e8,k.cell 15,k.cell 16,k.cell 17,k.cell 18,k.cell 19,k.cell 20⟩)
 have HG2:=zh (fun (X:qw) (hX:qY V2 X)=>HC.o X _ M.rz (h2.bw hX))
 have HSX:=zh (show ∃ a',(if M.rc=F then M.ra else Option.map (fun x=>x.add F) M.ra)=a'/\(E-F=0\/(∃ gr,M.ra=some (qR gr 0)/\a'=some (qR gr F))) from by
  by_cases c0:E-F=0
  .exact ⟨_,rfl,.inl c0⟩
  .obtain ⟨gr,hgr⟩:=(n3.resolve_left (fun q=>by omega));refine ⟨_,rfl,.inr ⟨gr,hgr,?_⟩⟩;rw [if_neg (by omega),hgr];show some (Addr.add (qR gr 0) F)=_
   rw [bP,Nat.zero_add])
 have HV:=zh hV;have HV2:=zh hV2;generalize dB Y.L=D at *;obtain ⟨x8,x15,x16,x17,x18,x19,x20⟩:=HG2.o V2 brf;clear h hv h1 h2 t1 t2 hV hV2 hF hE HK hob n1 n2 n3 s0 s1 s2 s3;go_enter Tryz.func65,Tryz.ntmps65
 go_wp2_with fail
 refine HEM.o.mono ?_;rintro e X1 ⟨rfl,rfl⟩;go_wp2_with (first|rw [<- HV.o]|rw [<- HV2.o])
 clear y9 f9 HV HV2 HEM
 go_region_held3 (fun w'=>w'.cell? (qR G 8)=some (qS M.ra M.rn M.rc)/\w'.cell? (qR G 15)=some (qS Y.a0 Y.xs.length Y.c0)/\w'.cell? (qR G 16)=some (qI Y.L.stack)/\w'.cell? (qR G 17)=some (qS Y.a2 Y.L.slots.length Y.c2)/\w'.cell? (qR G 18)=some (qI Y.L.flash)/\w'.cell? (qR G 19)=some (qI Y.L.ram)/\w'.cell? (qR G 20)=some (qS Y.a5 Y.ts.length Y.c5)) (go_keep)
  (first
    | (go_at_call 67;first
        | with_reducible refine (HSE.o _ brf).mono ?_
        | with_reducible refine (HSE.o _ brf.drew).mono ?_
       rintro e X3 ⟨rfl,hb3⟩;obtain ⟨x8,x15,x16,x17,x18,x19,x20⟩:=HG2.o X3 hb3;obtain ⟨X4,hrun,⟨R,he⟩,ht⟩:=HCL.o X3 hb3;have HE:=zh (xA he ht);obtain ⟨y8,y15,y16,y17,y18,y19,y20⟩:=HC.o X4 _ R he;obtain ⟨a',hsl,hca⟩:=HSX.o;have hrn:=fun ty=>hrun ty (M.rc-F) a' hca;clear he ht hrun hca))
 go_end0
 exact ⟨rfl,⟨_,HE.o.1⟩,HE.o.2⟩
