import Derived.Test.YtncccmeomcaabaaGreatR19
import Derived.Test.YtncccmeomcaabaaGreatR20
import Derived.Test.YtncccmeomcaabaaGreatR22
import Derived.Test.YtncccmeomcaabaaGreatR23
set_option linter.all false
set_option maxHeartbeats 8000000
namespace Go.Proofs.YtncccmeomcaabaaGreat
open Go.RowKit Classical
open Go.Proofs.Tryz
set_option maxRecDepth 100000
variable {T cs cw:Int}{ps:List PMod}{xs:List SlT}
structure Sam (M N:Mn):Prop where
 s:N.cs=M.cs/\N.cw=M.cw/\N.ck=M.ck/\N.cd=M.cd/\N.pc=M.pc/\N.md=M.md/\N.bk=M.bk/\N.tn=M.tn
 n:N.mn=M.mn/\N.kn=M.kn/\N.fn=M.fn/\N.rn=M.rn/\N.on=M.on/\N.ln=M.ln/\N.hn=M.hn
 z:N.kz=M.kz/\N.fz=M.fz/\N.rz=M.rz/\N.oz=M.oz/\N.lz=M.lz/\N.hz=M.hz
 m:∀ i,i<M.mn->aLf (M.ms.getD i aK) (N.ms.getD i aK)
theorem vW (s c k d:Int)(w:qw):qC 43 #[.agg #[qI s,qI c,qI k,qI d],.agg #[qI s,qI c,qI k,qI d]] w (qB w (.bool true)):=by
 have hB:qY w ((w.alloc (.cells #[qI s,qI c,qI k,qI d] 37)).alloc (.cells #[qI s,qI c,qI k,qI d] 37)):=bal.alloc (by simp) _;have h0:(s !=s)=false:=by simp
 have h1:(c !=c)=false:=by simp
 have h2:(k !=k)=false:=by simp
 have h3:(d !=d)=false:=by simp
 go_enter func43,ntmps43
 go_wp2;go_ret;exact ⟨rfl,hB⟩
theorem dV (M N:Mn)(w:qw)(h:MnD w M)(h':MnD w N)(s:Sam M N):
 qC 11 #[.agg #[qS M.ma M.mn M.mc,qI M.cs,qI M.cw,qI M.ck,qI M.cd,qI M.pc,qS M.ka M.kn M.kc,qS M.fa M.fn M.fc,qS M.ra M.rn M.rc,qS M.oa M.on M.oc,qI M.md,qI M.bk,qS M.la M.ln M.lc,qS M.ha M.hn M.hc,qI M.tn],.agg #[qS N.ma N.mn N.mc,qI N.cs,qI N.cw,qI N.ck,qI N.cd,qI N.pc,qS N.ka N.kn N.kc,qS N.fa N.fn N.fc,qS N.ra N.rn N.rc,qS N.oa N.on N.oc,qI N.md,qI N.bk,qS N.la N.ln N.lc,qS N.ha N.hn N.hc,qI N.tn]] w (qB w (.bool true)):=by
 obtain ⟨⟨e1,e2,e3,e4,e5,e6,e7,e8⟩,⟨n1,n2,n3,n4,n5,n6,n7⟩,⟨z1,z2,z3,z4,z5,z6⟩,hm⟩:=s;obtain ⟨m',k',f',r',o',l',h'⟩:=h';rw [n1] at m';rw [n2,z1] at k';rw [n3,z2] at f';rw [n4,z3] at r';rw [n5,z4] at o';rw [n6,z5] at l';rw [n7,z6] at h';rw [e1,e2,e3,e4,e5,e6,e7,e8,n1,n2,n3,n4,n5,n6,n7];clear e1 e2 e3 e4 e5 e6 e7 e8 n1 n2 n3 n4 n5 n6 n7 z1 z2 z3 z4 z5 z6;have hB0:qY w ((w.alloc (.cells #[qS M.ma M.mn M.mc,qI M.cs,qI M.cw,qI M.ck,qI M.cd,qI M.pc,qS M.ka M.kn M.kc,qS M.fa M.fn M.fc,qS M.ra M.rn M.rc,qS M.oa M.on M.oc,qI M.md,qI M.bk,qS M.la M.ln M.lc,qS M.ha M.hn M.hc,qI M.tn] 43)).alloc (.cells #[qS N.ma M.mn N.mc,qI M.cs,qI M.cw,qI M.ck,qI M.cd,qI M.pc,qS N.ka M.kn N.kc,qS N.fa M.fn N.fc,qS N.ra M.rn N.rc,qS N.oa M.on N.oc,qI M.md,qI M.bk,qS N.la M.ln N.lc,qS N.ha M.hn N.hc,qI M.tn] 43)):=bal.alloc (by simp) _;have u0:=(Blk.new w #[qS M.ma M.mn M.mc,qI M.cs,qI M.cw,qI M.ck,qI M.cd,qI M.pc,qS M.ka M.kn M.kc,qS M.fa M.fn M.fc,qS M.ra M.rn M.rc,qS M.oa M.on M.oc,qI M.md,qI M.bk,qS M.la M.ln M.lc,qS M.ha M.hn M.hc,qI M.tn] 43).alloc (.cells #[qS N.ma M.mn N.mc,qI M.cs,qI M.cw,qI M.ck,qI M.cd,qI M.pc,qS N.ka M.kn N.kc,qS N.fa M.fn N.fc,qS N.ra M.rn N.rc,qS N.oa M.on N.oc,qI M.md,qI M.bk,qS N.la M.ln N.lc,qS N.ha M.hn N.hc,qI M.tn] 43);have v0:=Blk.new (w.alloc (.cells #[qS M.ma M.mn M.mc,qI M.cs,qI M.cw,qI M.ck,qI M.cd,qI M.pc,qS M.ka M.kn M.kc,qS M.fa M.fn M.fc,qS M.ra M.rn M.rc,qS M.oa M.on M.oc,qI M.md,qI M.bk,qS M.la M.ln M.lc,qS M.ha M.hn M.hc,qI M.tn] 43)) #[qS N.ma M.mn N.mc,qI M.cs,qI M.cw,qI M.ck,qI M.cd,qI M.pc,qS N.ka M.kn N.kc,qS N.fa M.fn N.fc,qS N.ra M.rn N.rc,qS N.oa M.on N.oc,qI M.md,qI M.bk,qS N.la M.ln N.lc,qS N.ha M.hn N.hc,qI M.tn] 43;try unfold qY at *
 simp only [xF] at v0;have x1:(M.md !=M.md)=false:=by simp
 have x2:(M.bk !=M.bk)=false:=by simp
 have x3:(M.tn !=M.tn)=false:=by simp
 have H1:=zh (fun (W:qw) (hb:qY w W)=>tV M.ma N.ma M.mn M.mc N.mc M.ms N.ms W (h.m.s.bw hb) (m'.s.bw hb) hm);have H2:=zh (fun (W:qw)=>vW M.cs M.cw M.ck M.cd W);have H3:=zh (fun (W:qw) (hb:qY w W)=>aC5 M.pc M.ka N.ka M.kn M.kc N.kc M.kz W (h.k.bw hb) (k'.bw hb));have H4:=zh (fun (W:qw) (hb:qY w W)=>aEz M.fa M.ra M.oa N.fa N.ra N.oa M.fn M.fc M.rn M.rc M.on M.oc M.fn N.fc M.rn N.rc M.on N.oc M.fz M.rz M.oz W (h.f.bw hb) (h.r.bw hb) (h.o.bw hb) (f'.bw hb) (r'.bw hb) (o'.bw hb));have H5:=zh (fun (W:qw) (hb:qY w W)=>aA1 M.la N.la M.ln M.lc N.lc M.lz W (h.l.bw hb) (l'.bw hb));have H6:=zh (fun (W:qw) (hb:qY w W)=>vU M.ha N.ha M.hn M.hc N.hc M.hz W (h.h.bw hb) (h'.bw hb));clear h m' k' f' r' o' l' h' hm;have HK:=zh (xA u0 v0);go_enter func11,ntmps11
 go_wp2_with fail
 refine (H1.o _ hB0).mono ?_;rintro e w1 ⟨rfl,hb⟩;have hB1:=hB0.trans (hb.mono (by have:=hB0.size;simp;omega));have K1:=xA (HK.o.1.bw hb) (HK.o.2.bw hb);clear hB0 u0 v0 hb HK;have p1:=K1.1.e1;have q1:=K1.2.e1;have p2:=K1.1.e2;have q2:=K1.2.e2;have p3:=K1.1.e3;have q3:=K1.2.e3;have p4:=K1.1.e4;have q4:=K1.2.e4;have HK:=zh K1;clear K1;go_wp2_with fail
 refine (H2.o _).mono ?_;rintro e w2 ⟨rfl,hb⟩;have hB2:=hB1.trans (hb.mono hB1.size);have K2:=xA (HK.o.1.bw hb) (HK.o.2.bw hb);clear hB1 hb HK p1 q1 p2 q2 p3 q3 p4 q4;have p5:=K2.1.e5;have q5:=K2.2.e5;have p6:=K2.1.e6;have q6:=K2.2.e6;have HK:=zh K2;clear K2;go_wp2_with fail
 refine (H3.o _ hB2).mono ?_;rintro e w3 ⟨rfl,hb⟩;have hB3:=hB2.trans (hb.mono hB2.size);have K3:=xA (HK.o.1.bw hb) (HK.o.2.bw hb);clear hB2 hb HK p5 q5 p6 q6;have p7:=K3.1.e7;have q7:=K3.2.e7;have p8:=K3.1.e8;have q8:=K3.2.e8;have p9:=K3.1.e9;have q9:=K3.2.e9;have HK:=zh K3;clear K3;go_wp2_with fail
 refine (H4.o _ hB3).mono ?_;rintro e w4 ⟨rfl,hb⟩;have hB4:=hB3.trans (hb.mono hB3.size);have K4:=xA (HK.o.1.bw hb) (HK.o.2.bw hb);clear hB3 hb HK p7 q7 p8 q8 p9 q9;have p10:=K4.1.e10;have q10:=K4.2.e10;have p11:=K4.1.e11;have q11:=K4.2.e11;have p12:=K4.1.e12;have q12:=K4.2.e12;have HK:=zh K4;clear K4;go_wp2_with fail
 refine (H5.o _ hB4).mono ?_;rintro e w5 ⟨rfl,hb⟩;have hB5:=hB4.trans (hb.mono hB4.size);have K5:=xA (HK.o.1.bw hb) (HK.o.2.bw hb);clear hB4 hb HK p10 q10 p11 q11 p12 q12;have p13:=K5.1.e13;have q13:=K5.2.e13;have HK:=zh K5;clear K5;go_wp2_with fail
 refine (H6.o _ hB5).mono ?_;rintro e w6 ⟨rfl,hb⟩;have hB6:=hB5.trans (hb.mono hB5.size);have K6:=xA (HK.o.1.bw hb) (HK.o.2.bw hb);clear hB5 hb HK p13 q13;have p14:=K6.1.e14;have q14:=K6.2.e14;clear K6;go_wp2;go_ret;exact ⟨rfl,hB6⟩
structure Cn where
 ps:List PMod
 cs:Int
 cw:Int
 ck:Int
 cd:Int
 pc:Int
 kz:List Int
 fz:List Int
 rz:List Int
 oz:List Int
 md:Int
 bk:Int
 lz:List SlT
 hz:List FrT
 tn:Int
def Mn.cn (M:Mn):Cn:=⟨aE M.ms,M.cs,M.cw,M.ck,M.cd,M.pc,M.kz,M.fz,M.rz,M.oz,M.md,M.bk,M.lz,M.hz,M.tn⟩
def szc (P:PMod):Nat:=2+P.tz.length+(P.bl.map List.length).sum+P.dz.length+P.rz.length+P.ss.length+3*P.es.length
def mkn (C:Cn):Nat:=1+(C.ps.map szc).sum+C.kz.length+C.fz.length+C.rz.length+C.oz.length+4*C.lz.length+4*C.hz.length
theorem aBk {α:Type}(f:α->Nat)(z:α)(l:List α):∀ k,k<=l.length->upS (fun j=>f (l.getD j z)) k=((l.take k).map f).sum
 | 0,_=>by simp [upS]
 | k+1,h=>by
   rw [upS,aBk f z l k (by omega),List.take_add_one,List.map_append,List.sum_append];congr 1;simp [xB,show k<l.length by omega]
theorem yK {α:Type}(f:α->Nat)(z:α)(l:List α):upS (fun j=>f (l.getD j z)) l.length=(l.map f).sum:=by
 rw [aBk f z l _ aN,List.take_length]
structure MxO (W:qw)(base mid:Nat)(C:Cn)(M:Mn)(L:List (PMod×Mb))(β:Nat->Nat):Prop where
 m:OMp W base (qS M.ma M.mn M.mc) L β
 e:L.map (fun x=>x.1)=C.ps
 k:OI W mid (qS M.ka M.kn M.kc) C.kz
 q:gL W mid (qS M.fa M.fn M.fc) (qS M.ra M.rn M.rc) (qS M.oa M.on M.oc) C.fz C.rz C.oz
 l:OG 142 4 bR W mid (qS M.la M.ln M.lc) C.lz
 h:OG 135 4 cO W mid (qS M.ha M.hn M.hc) C.hz
 bm:base<=mid
 bh:β L.length<=mid
 vs:M.cs=C.cs/\M.cw=C.cw/\M.ck=C.ck/\M.cd=C.cd/\M.pc=C.pc/\M.md=C.md/\M.bk=C.bk/\M.tn=C.tn
 vz:M.ms=L.map mdP/\M.kz=C.kz/\M.fz=C.fz/\M.rz=C.rz/\M.oz=C.oz/\M.lz=C.lz/\M.hz=C.hz
section
variable {W W':qw}{base mid base' mid':Nat}{C:Cn}{M N:Mn}{L L':List (PMod×Mb)}{β β':Nat->Nat}
theorem MxO.bw (h:MxO W base mid C M L β)(hb:qY W W'):MxO W' base mid C M L β:=⟨h.m.bw hb,h.e,h.k.bw hb,rX h.q hb,h.l.bw hb,h.h.bw hb,h.bm,h.bh,h.vs,h.vz⟩
theorem MxO.turn {S:Nat->Prop}(h:MxO W base mid C M L β)(t:Turn S W W')(hS:∀ j,S j->j<base):MxO W' base mid C M L β:=
 ⟨h.m.turn t hS,h.e,aW t h.k (fun k hk s=>by have:=(h.k.lt k hk).1;have:=hS k s;have:=h.bm;omega),dY h.q t (fun j hj s=>by have:=((qE h.q).lt hj).1;have:=hS j s;have:=h.bm;omega),h.l.kept t (fun k hk s=>by have:=(h.l.lt k hk).1;have:=hS k s;have:=h.bm;omega),h.h.kept t (fun k hk s=>by have:=(h.h.lt k hk).1;have:=hS k s;have:=h.bm;omega),h.bm,h.bh,h.vs,h.vz⟩
theorem MxO.len (h:MxO W base mid C M L β):L.length=M.mn:=(gD h.m.o).symm
theorem MxO.mnd (h:MxO W base mid C M L β)(hn:M.mn<=1048576):MnD W M:=by
 have h1:=h.len;obtain ⟨a,cap,e,hm⟩:=h.m.msd (by omega);simp only [Value.slice.injEq] at e;obtain ⟨e1,e2,e3⟩:=e;rw [h1,<- e1,<- e3] at hm;obtain ⟨v1,v2,v3,v4,v5,v6,v7⟩:=h.vz;exact ⟨by rw [v1];exact hm,by rw [v2];exact h.k.is,by rw [v3];exact h.q.1.bs,by rw [v4];exact h.q.2.1.bs,by rw [v5];exact h.q.2.2.1.bs,by rw [v6];exact oZ (fun _=>rfl) h.l,by rw [v7];exact oZ (fun _=>rfl) h.h⟩
theorem MxO.sam (h:MxO W base mid C M L β)(h':MxO W' base' mid' C N L' β'):Sam M N:=by
 have l1:=h.len;have l1':=h'.len;obtain ⟨s1,s2,s3,s4,s5,s6,s7,s8⟩:=h.vs;obtain ⟨t1,t2,t3,t4,t5,t6,t7,t8⟩:=h'.vs;obtain ⟨v1,v2,v3,v4,v5,v6,v7⟩:=h.vz;obtain ⟨u1,u2,u3,u4,u5,u6,u7⟩:=h'.vz;have he:L.map (fun x=>x.1)=L'.map (fun x=>x.1):=h.e.trans h'.e.symm;have hl:L.length=L'.length:=by have:=congrArg List.length he;simpa using this
 refine ⟨⟨by rw [s1,t1],by rw [s2,t2],by rw [s3,t3],by rw [s4,t4],by rw [s5,t5],by rw [s6,t6],by rw [s7,t7],by rw [s8,t8]⟩,⟨by omega,by rw [mB h.k,mB h'.k],by rw [dZ h.q.1,dZ h'.q.1],by rw [dZ h.q.2.1,dZ h'.q.2.1],by rw [dZ h.q.2.2.1,dZ h'.q.2.2.1],by rw [gD h.l,gD h'.l],by rw [gD h.h,gD h'.h]⟩,⟨by rw [v2,u2],by rw [v3,u3],by rw [v4,u4],by rw [v5,u5],by rw [v6,u6],by rw [v7,u7]⟩,fun i hi=>?_⟩;rw [v1,u1];have hi1:i<L.length:=by omega
 have hi2:i<L'.length:=by omega
 have g1:(L.map mdP).getD i aK=mdP L[i]:=by simp [xB,hi1]
 have g2:(L'.map mdP).getD i aK=mdP L'[i]:=by simp [xB,hi2]
 rw [g1,g2];have m1:=(h.m.m i L[i] (xN hi1)).1;have m2:=(h'.m.m i L'[i] (xN hi2)).1
 have e1:L[i].1=L'[i].1:=by
  have:=congrArg (fun l=>l[i]?) he;simpa [hi1,hi2] using this
 generalize L[i]=x at *;generalize L'[i]=y at *;obtain ⟨P,x⟩:=x;obtain ⟨P',y⟩:=y;dsimp only at e1;subst e1;obtain ⟨hl2,hz⟩:=ModO.same m1 m2;exact ⟨rfl,rfl,rfl,hl2,hz,rfl,rfl,rfl,rfl,rfl,rfl,rfl,rfl,rfl⟩
theorem MxO.mno (h:MxO W base mid C M L β):MnO W base (qS M.ma M.mn M.mc) ((L.map hdP).map fun x=>x.1) (L.map hdP) β (qS M.ka M.kn M.kc) (qS M.fa M.fn M.fc) (qS M.ra M.rn M.rc) (qS M.oa M.on M.oc) (qS M.la M.ln M.lc) (qS M.ha M.hn M.hc) C.kz C.fz C.rz C.oz C.lz C.hz:=by
 have hb:=h.bh
 have no:∀ j,mid<=j->¬ ShL ((L.map hdP).map fun x=>x.1) j:=fun j hj ⟨i,hi,hs⟩=>by
  simp only [xH] at hi;have e:((L.map hdP).map fun x=>x.1).getD i zHd=(hdP L[i]).1:=by simp [xB,hi]
  rw [e] at hs;have h1:=(h.m.m i L[i] (xN hi)).2.2 j hs;have h2:=h.m.mono (i+1) L.length (by omega) aN;omega
 exact ⟨h.m.oms,rfl,h.k.mono h.bm,(qE h.q).mono h.bm,h.l.mono h.bm,h.h.mono h.bm,fun j hj=>no j (h.k.lt j hj).1,fun j hj=>no j ((qE h.q).lt hj).1,fun i x hx=>xM h.m.lo (h.m.mono 0 i (xC _) (by have:=dH hx;rw [xH] at this;omega))⟩
theorem MxO.cnt (h:MxO W base mid C M L β):1+upS (fun j=>aY (((L.map hdP).map fun x=>x.1).getD j zHd)) M.mn+M.kn+M.fn+M.rn+M.on+4*M.ln+4*M.hn=mkn C/\∀ i,i<M.mn->(((L.map hdP).map fun x=>x.1).getD i zHd).bn<=1048576:=by
 have l1:=h.len
 have e1:upS (fun j=>aY (((L.map hdP).map fun x=>x.1).getD j zHd)) M.mn=(C.ps.map szc).sum:=by
  have hl:M.mn=((L.map hdP).map fun x=>x.1).length:=by simp [l1]
  rw [hl,yK aY zHd,<- h.e,List.map_map,List.map_map,List.map_map];congr 1;apply List.map_congr_left;intro x hx;obtain ⟨i,hi,rfl⟩:=List.getElem_of_mem hx;have s:=(ModO.sum (h.m.m i L[i] (xN hi)).1).1;simp only [Function.comp,aY,hdP,szc];rw [s]
 have k1:=mB h.k;have k2:=dZ h.q.1;have k3:=dZ h.q.2.1;have k4:=dZ h.q.2.2.1;have k5:=gD h.l;have k6:=gD h.h;refine ⟨by unfold mkn;rw [e1];omega,fun i hi=>?_⟩;have hi1:i<L.length:=by omega
 have e:((L.map hdP).map fun x=>x.1).getD i zHd=(hdP L[i]).1:=by simp [xB,hi1]
 rw [e];obtain ⟨m1,R,_⟩:=h.m.m i L[i] (xN hi1);have s:=(ModO.sum m1).2;have:=R.b.1;show L[i].2.bl.length<=_;omega
end
def slk (ps:List PMod)(T:Int)(x:SlT):Prop:=(x.1=false/\x=zSl)\/(x.1=true/\0<=x.2.2.1/\0<=pcq ps x.2.1 x.2.2.1/\1<=x.2.2.2/\x.2.2.2<=T)
def cmn (x y:SlT):Prop:=x.1=true/\y.1=true/\(y.2.2.2=x.2.2.2\/(y.2.1=x.2.1/\y.2.2.1=x.2.2.1))
def aln (xs:List SlT)(i:Nat):Prop:=∀ k,k<i->¬ cmn (xs.getD i zSl) (xs.getD k zSl)
def slz (cw:Int):Nat:=(rnd (4*cw)).toNat
def bnk (ps:List PMod)(m b:Int):List Int:=(ps.getD m.toNat zP).bl.getD b.toNat []
def bkb (ps:List PMod)(cw m b:Int):List Int:=bL (List.replicate (slz cw) 0) 0 (bnk ps m b) (bnk ps m b).length
def slb (rz:qi)(L:Lay)(cw:Int)(i:Nat):List Int:=(rz.drop (L.slots.getD i 0-65536).toNat).take (slz cw)
def mP (ps:List PMod)(L:Lay)(cw T:Int)(rz:qi)(xs:List SlT)(i:Nat):Prop:=slk ps T (xs.getD i zSl)/\aln xs i/\((xs.getD i zSl).1=true->slb rz L cw i=bkb ps cw (xs.getD i zSl).2.1 (xs.getD i zSl).2.2.1)
def cU (ps:List PMod)(L:Lay)(cs cw T:Int)(rz:qi)(xs:List SlT):Prop:=(xs.length:Int)=cs/\∀ i,i<xs.length->mP ps L cw T rz xs i
def vA (ps:List PMod)(cs m b:Int)(xs:List SlT):Prop:=0<=pcq ps m b/\(cs=0\/b=-1\/hld xs m b≠-1)
abbrev tgk (ps:List PMod)(m b t:Int):Prop:=0<=pcq ps m b/\0<=t/\t<=pcq ps m b
abbrev frk (ps:List PMod)(x:FrT):Prop:=tgk ps x.1 x.2.1 x.2.2.1/\0<=x.2.2.2/\x.2.2.2<=4294967295
def jM (ps:List PMod)(cd:Int)(xs:List FrT):Prop:=(xs.length:Int)<=cd/\∀ i,i<xs.length->frk ps (xs.getD i zFr)
def Mn.L (M:Mn):Lay:=lkL (aE M.ms) M.cs M.cw M.ck M.cd
structure MOk (M:Mn):Prop where
 l:lkc (aE M.ms) M.cs M.cw M.ck M.cd=0
 p:uJ (aE M.ms) M.L
 c:cok M.pc M.kn M.kz=true
 b:mok M.fn M.rn M.on=true
 f:imF (aE M.ms) M.L=M.fz
 r:(M.rn:Int)=M.L.ram
 t:0<=M.tn/\M.tn<=1000000000
 s:cU (aE M.ms) M.L M.cs M.cw M.tn M.rz M.lz
 n:vA (aE M.ms) M.cs M.md M.bk M.lz
 h:jM (aE M.ms) M.cd M.hz
theorem mN (a:qO)(n cap:Nat)(ms:List Md)(m b t:Int)(w:qw)(h:MSD w a n cap ms):
 qC 126 #[qS a n cap,.agg (qT m b t)] w fun e w'=>e=.returned (.bool (decide (tgk (aE ms) m b t)))/\qY w w':=by
 obtain ⟨V,hV,bV,kV⟩:=nwb w (qT m b t) 58;have HIP:=zh (kK a n cap ms m b V (h.s.bw bV));rw [eM h m b] at HIP;have HV:=zh hV;have HK:=zh (xA bV kV);obtain ⟨r,hr⟩:=eqx (decide (tgk (aE ms) m b t));rw [<- hr];have HR:=zh hr;have hmx:=h.s.2.1;unfold maxLen at hmx;clear hV hr;by_cases c:0<=pcq (aE ms) m b
 .rw [xR c] at HIP;obtain ⟨⟨m0,m1⟩,_⟩:=nT h c;obtain ⟨gm,om,rfl,v0,v1,v2,v3,v4,v5,v6,v7⟩:=(h.s.bw bV).at m.toNat (by omega);have HPC:=zh (fun (M:Md) (hM:ms.getD m.toNat aK=M) (X:qw) (hX:qY V X)=>(aHg (h.bw bV) c hM X hX));obtain ⟨M,hM⟩:=eqx (ms.getD m.toNat aK);rw [<- hM] at v0 v1 v2 v3 v4 v5 v6 v7;have HP:=zh (HPC.o M hM.symm);have HRQ:=zh (show r=decide (0<=t/\t<=pcq (aE ms) m b) from by rw [HR.o];unfold tgk;simp [c]);clear HR;generalize pcq (aE ms) m b=q at *
  have HC:=zh (fun (X:qw) (hX:qY V X)=>show (X.cell? (qR w.heap.size 0)=some (qI m)/\X.cell? (qR w.heap.size 1)=some (qI b)/\X.cell? (qR w.heap.size 2)=some (qI t))/\X.cell? (qR gm (om+m.toNat*8))=some (.string M.nm)/\X.cell? (qR gm (om+m.toNat*8+1))=some (qS M.ta M.tn M.tc)/\X.cell? (qR gm (om+m.toNat*8+2))=some (qS M.ba M.bn M.bc)/\X.cell? (qR gm (om+m.toNat*8+3))=some (qS M.da M.dn M.dc)/\X.cell? (qR gm (om+m.toNat*8+4))=some (qI M.bss)/\X.cell? (qR gm (om+m.toNat*8+5))=some (qS M.ra M.rn M.rc)/\X.cell? (qR gm (om+m.toNat*8+6))=some (qS M.ia M.im M.ic)/\X.cell? (qR gm (om+m.toNat*8+7))=some (qS M.ea M.en M.ec) from
   ⟨⟨(kV.bw hX).cell 0,(kV.bw hX).cell 1,(kV.bw hX).cell 2⟩,aB hX v0,aB hX v1,aB hX v2,aB hX v3,aB hX v4,aB hX v5,aB hX v6,aB hX v7⟩)
  clear HPC hM h bV kV c v0 v1 v2 v3 v4 v5 v6 v7;obtain ⟨⟨x0,x1,x2⟩,_⟩:=HC.o V brf;go_enter func126,ntmps126
  go_wp2_with (rw [<- HV.o])
  refine HIP.o.mono ?_;rintro e X1 ⟨rfl,hb1⟩;have HX1:=zh hb1;clear x0 x1 x2;have HP2:=zh (fun (X:qw) (hX:qY X1 X)=>(HP.o X (HX1.o.trans (hX.mono HX1.o.size))).mono (fun e w' he=>show ∃ xa xn xc,e=.returned (.tuple #[qS xa xn xc,.bool true])/\(xn:Int)=q/\qY V w' from he));obtain ⟨⟨y0,y1,y2⟩,u0,u1,u2,u3,u4,u5,u6,u7⟩:=HC.o X1 hb1;clear hb1 HIP HV HP;go_wp2_with fail
  go_region_held3 (fun w'=>w'.cell? (qR w.heap.size 0)=some (qI m)/\w'.cell? (qR w.heap.size 1)=some (qI b)/\w'.cell? (qR gm (om+m.toNat*8))=some (.string M.nm)/\w'.cell? (qR gm (om+m.toNat*8+1))=some (qS M.ta M.tn M.tc)/\w'.cell? (qR gm (om+m.toNat*8+2))=some (qS M.ba M.bn M.bc)/\w'.cell? (qR gm (om+m.toNat*8+3))=some (qS M.da M.dn M.dc)/\w'.cell? (qR gm (om+m.toNat*8+4))=some (qI M.bss)/\w'.cell? (qR gm (om+m.toNat*8+5))=some (qS M.ra M.rn M.rc)/\w'.cell? (qR gm (om+m.toNat*8+6))=some (qS M.ia M.im M.ic)/\w'.cell? (qR gm (om+m.toNat*8+7))=some (qS M.ea M.en M.ec)) (go_keep)
   (first
     | (go_at_call 175;first
         | with_reducible refine (HP2.o _ brf).mono ?_
         | with_reducible refine (HP2.o _ brf.drew).mono ?_
        rintro e w1 ⟨xa,xn,xc,rfl,hxn,hb1⟩;have HXN:=zh hxn;have HB1:=zh hb1;obtain ⟨⟨z0,z1,z2⟩,t0,t1,t2,t3,t4,t5,t6,t7⟩:=HC.o w1 hb1
        clear hb1 hxn))
  clear y0 y1 y2 u0 u1 u2 u3 u4 u5 u6 u7 t0 t1 t2 t3 t4 t5 t6 t7 HP2 HC HX1;have HU:=zh (cX t (xn:Int));go_wp2_with (go_at_call 155;refine (HU.o _).mono ?_;rintro e w2 ⟨rfl,rfl⟩)
  go_ret;exact ⟨aA (by rw [HRQ.o,HXN.o];simp),HK.o.1.trans (HB1.o.mono HK.o.1.size)⟩
 .rw [xS c] at HIP;have e:=zh (show r=false from by rw [HR.o];exact xS (fun k=>c k.1));have x0:=kV.cell 0;have x1:=kV.cell 1;clear h bV kV;go_enter func126,ntmps126
  go_wp2_with (rw [<- HV.o])
  refine HIP.o.mono ?_;rintro e X1 ⟨rfl,hb1⟩;go_wp2;go_ret;exact ⟨aA e.o.symm,HK.o.1.trans (hb1.mono HK.o.1.size)⟩
theorem aFv (zs:qi)(k:Nat)(v:Int):∀ (s p:Nat),(put zs k v s)[p]?=if k<=p/\p<k+s/\p<zs.length then some (bt v (p-k)) else zs[p]?
 | 0,p=>by rw [if_neg (by omega)];rfl
 | s+1,p=>by
   show ((put zs k v s).set (k+s) (bt v s))[p]?=_;rw [List.getElem?_set,pZ,aFv zs k v s p];by_cases c:k+s=p
   .subst c;rw [if_pos rfl];by_cases c2:k+s<zs.length
    .rw [if_pos c2,if_pos (by omega),show k+s-k=s by omega]
    .rw [if_neg c2,if_neg (by omega),xO (by omega)]
   .rw [if_neg c];by_cases c2:k<=p/\p<k+s/\p<zs.length
    .rw [if_pos c2,if_pos (by omega)]
    .rw [if_neg c2,if_neg (by omega)]
theorem rQ (zs:qi)(k:Nat)(ws:qi):∀ (n p:Nat),(bL zs k ws n)[p]?=if k<=p/\p<k+4*n/\p<zs.length then some (bt (ws.getD ((p-k)/4) 0) ((p-k)%4)) else zs[p]?
 | 0,p=>by rw [if_neg (by omega)];rfl
 | n+1,p=>by
   rw [bL,aFv,eX,rQ zs k ws n p];by_cases c:k+4*n<=p/\p<k+4*n+4/\p<zs.length
   .rw [if_pos c,if_pos (by omega),show (p-k)/4=n by omega,show (p-k)%4=p-(k+4*n) by omega]
   .rw [if_neg c];by_cases c2:k<=p/\p<k+4*n/\p<zs.length
    .rw [if_pos c2,if_pos (by omega)]
    .rw [if_neg c2,if_neg (by omega)]
theorem aFy (zs:qi)(f:Nat)(ds:qi)(p:Nat)(h:f+ds.length<=zs.length):(ovr zs f ds)[p]?=if f<=p/\p<f+ds.length then ds[p-f]? else zs[p]?:=by
 unfold ovr;by_cases c1:p<f
 .rw [List.getElem?_append_left (by simp;omega),List.getElem?_take_of_lt c1,if_neg (by omega)]
 .rw [List.getElem?_append_right (by simp;omega),List.length_take,Nat.min_eq_left (by omega)];by_cases c2:p<f+ds.length
  .rw [List.getElem?_append_left (by omega),if_pos (by omega)]
  .rw [List.getElem?_append_right (by omega),List.getElem?_drop,if_neg (by omega)];congr 1;omega
theorem aM0 (R:qi)(f n:Nat)(ws:qi)(hw:ws.length<=n)(hf:f+4*n<=R.length):bL R f ws n=ovr R f (bL (List.replicate (4*n) 0) 0 ws ws.length):=by
 apply List.ext_getElem?;intro p;rw [rQ,aFy _ _ _ _ (by rw [eX,List.length_replicate];omega),eX,List.length_replicate,rQ,List.length_replicate];by_cases c:f<=p/\p<f+4*n
 .rw [if_pos (by omega),if_pos c];by_cases c2:p-f<4*ws.length
  .rw [if_pos (by omega),Nat.sub_zero]
  .rw [if_neg (by omega),List.getElem?_replicate,if_pos (by omega),show ws.getD ((p-f)/4) 0=0 from by rw [xB,xO (by omega)];rfl];simp [bt]
 .rw [if_neg (by omega),if_neg c]
theorem aOk {R D:qi}{f n:Nat}(h:(R.drop f).take n=D)(hl:f+n<=R.length):ovr R f D=R:=by
 have hn:D.length=n:=by rw [<- h];simp;omega
 apply List.ext_getElem?;intro p;rw [aFy _ _ _ _ (by omega)];by_cases c:f<=p/\p<f+D.length
 .rw [if_pos c,<- h,List.getElem?_take_of_lt (by omega),List.getElem?_drop];congr 1;omega
 .rw [if_neg c]
def lst (xs:List SlT):Nat->Nat
 | 0=>0
 | i+1=>if (xs.getD i zSl).2.2.2<(xs.getD (lst xs i) zSl).2.2.2 then i else lst xs i
theorem sY (xs:List SlT):∀ i,lst xs i<i\/(i=0/\lst xs i=0)
 | 0=>.inr ⟨rfl,rfl⟩
 | i+1=>by
   unfold lst;split
   .exact .inl (by omega)
   .rcases sY xs i with h|h
    .exact .inl (by omega)
    .exact .inl (by omega)
def slq (xs:List SlT)(m b:Int):Nat:=if hld xs m b=-1 then lst xs xs.length else (hld xs m b).toNat
theorem lW (m b:Int)(h:xs.length≠0):slq xs m b<xs.length:=by
 unfold slq;split
 .rcases sY xs xs.length with q|q
  .exact q
  .omega
 .rcases fZ xs m b with q|q
  .contradiction
  .omega
def Tnz (xs:List SlT):Prop:=∀ i,i<xs.length->((xs.getD i zSl).1=false->(xs.getD i zSl).2.2.2=0)/\((xs.getD i zSl).1=true->1<=(xs.getD i zSl).2.2.2)
theorem aJ6 (hv:Tnz xs){j:Nat}(hj:j<xs.length)(hu:(xs.getD j zSl).1=false)(hb:∀ i,i<j->(xs.getD i zSl).1=true):lst xs xs.length=j:=by
 have h0:=(hv j hj).1 hu
 have A:lst xs (j+1)=j:=by
  unfold lst;rcases sY xs j with h|⟨h,h'⟩
  .have:=(hv (lst xs j) (by omega)).2 (hb _ h);rw [if_pos (by omega)]
  .split
   .rfl
   .omega
 have B:∀ k,j+1<=k->k<=xs.length->lst xs k=j:=by
  intro k hk
  induction k with
  | zero=>omega
  | succ k ih=>
    intro hl;by_cases e:k=j
    .subst e;exact A
    .have:=ih (by omega) (by omega);unfold lst;rw [this,if_neg];rw [h0];have q:=hv k (by omega);cases e2:(xs.getD k zSl).1
     .have:=q.1 e2;omega
     .have:=q.2 e2;omega
 exact B _ (by omega) aN
def dI (C:Cn)(L:Lay)(m b t:Int):Cn:=
 if C.lz.length≠0/\b≠-1 then
  { C with tn:=C.tn+1,lz:=C.lz.set (slq C.lz m b) (true,m,b,C.tn+1),rz:=ovr C.rz (L.slots.getD (slq C.lz m b) 0-65536).toNat (bkb C.ps C.cw m b),md:=m,bk:=b,pc:=gB L (plc C.ps m.toNat) b (slq C.lz m b:Nat)+4*t,kz:=C.kz.set 7 (plc C.ps m.toNat).data }
 else { C with md:=m,bk:=b,pc:=gB L (plc C.ps m.toNat) b (-1)+4*t,kz:=C.kz.set 7 (plc C.ps m.toNat).data }
theorem aLo {L:Lay}{rz:qi}(h:cU ps L cs cw T rz xs):Tnz xs:=fun i hi=>by
 have h0:=(h.2 i hi).1;unfold slk at h0;rcases h0 with h1|h1
 .exact ⟨fun _=>by rw [h1.2];rfl,fun e=>(by rw [h1.1] at e;cases e)⟩
 .exact ⟨fun e=>(by rw [h1.1] at e;cases e),fun _=>h1.2.2.2.1⟩
theorem aM8 (ps:List PMod)(cw m b:Int):(bkb ps cw m b).length=slz cw:=by unfold bkb;rw [eX,List.length_replicate]
theorem aLn {L:Lay}{rz:qi}(h:cU ps L cs cw T rz xs){m b:Int}(hh:hld xs m b≠-1)(hf:(L.slots.getD (slq xs m b) 0-65536).toNat+slz cw<=rz.length):ovr rz (L.slots.getD (slq xs m b) 0-65536).toNat (bkb ps cw m b)=rz:=by
 have key:∀ (ys:List SlT) (i:Nat),fK m b i ys≠-1->∃ k:Nat,fK m b i ys=(i+k:Nat)/\k<ys.length/\usd m b (ys.getD k zSl):=by
  intro ys
  induction ys with
  | nil=>intro i h;exact absurd rfl h
  | cons y ys ih=>
    intro i h;unfold fK at h ⊢;by_cases c:usd m b y
    .rw [if_pos c];exact ⟨0,rfl,by simp,c⟩
    .rw [if_neg c] at h ⊢;obtain ⟨k,e,h1,h2⟩:=ih (i+1) h;exact ⟨k+1,by rw [e];congr 1;omega,by simp;omega,by simpa using h2⟩
 obtain ⟨k,e,h1,h2⟩:=key xs 0 hh
 have e':slq xs m b=k:=by
  unfold slq;rw [if_neg hh];unfold hld;rw [e];omega
 rw [e'] at hf ⊢;obtain ⟨_,_,h5⟩:=h.2 k h1;obtain ⟨u1,u2,u3⟩:=h2;have:=h5 u1;rw [u2,u3] at this;exact aOk this hf
