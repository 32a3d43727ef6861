import Derived.Test.YtncccmeomcaabaaGreatR09
set_option linter.all false
set_option maxHeartbeats 4000000
namespace Go.Proofs.YtncccmeomcaabaaGreat
open Go.RowKit
open Go.Proofs.Tryz
set_option maxRecDepth 100000
variable {a:qO}{cap lo' n:Nat}{d k s w:Int}{ms:List Md}{ps:List PMod}{row:Option Nat}
theorem aIr (h:cfo s w k d=false):dS ps s w k d=1:=if_pos h
theorem aIq (h:cfo s w k d=true)(h2:ps.length<1\/4<ps.length):dS ps s w k d=2:=by
 unfold dS;rw [if_neg (by rw [h];decide),if_pos h2]
theorem aIp (h:cfo s w k d=true)(h2:¬ (ps.length<1\/4<ps.length))(i:Nat)(hi:i<ps.length)(h3:fA (ps.getD i zP)≠0):dS ps s w k d=3:=by
 unfold dS;rw [if_neg (by rw [h];decide),if_neg h2,if_pos (fun v=>h3 (v i hi))]
theorem aN9 (h:cfo s w k d=true)(h2:¬ (ps.length<1\/4<ps.length))(h3:fO ps)(i j:Nat)(hi:i<ps.length)(hj:j<i)(h4:(ps.getD j zP).nm=(ps.getD i zP).nm):dS ps s w k d=4:=by
 unfold dS;rw [if_neg (by rw [h];decide),if_neg h2,if_neg (fun v=>v h3),if_pos (fun v=>v i hi j hj h4)]
theorem aIs (h:cfo s w k d=true)(h2:¬ (ps.length<1\/4<ps.length))(h3:fO ps)(h4:nms ps):dS ps s w k d=0:=by
 unfold dS;rw [if_neg (by rw [h];decide),if_neg h2,if_neg (fun v=>v h3),if_neg (fun v=>v h4)]
theorem iK {B:Nat}{a W:qw}(h:Below B a W)(n:Nat):Below B a (W.drewN n):=⟨h.os,h.tape,h.output,h.size,h.block⟩
theorem aN6 {a b:ByteArray}(h:a≠b):(a.toList==b.toList)=false:=by
 rw [beq_eq_false_iff_ne];intro e;apply h;rw [ByteArray.toList_eq,ByteArray.toList_eq] at e;cases a
 cases b
 simp at e;rw [e]
theorem dL (x:Int)(w:qw)(h0:0<=x:=by omega)(h1:x<=4294967295:=by omega):qC 171 #[qI x] w fun e w'=>e=.returned (qI (rnd x))/\w'=w:=by
 have hd:(x+31).tdiv 32=(x+31)/32:=Int.tdiv_eq_ediv_of_nonneg (by omega);go_enter func171,ntmps171
 go_wp2;go_ret;exact ⟨aH (by unfold rnd;rw [show x+31=x+32-1 by omega]),rfl⟩
theorem Md.okS {m:Md}{w:qw}(h:m.md w):qC 181 #[.agg (qM m.nm m.ta m.tn m.tc m.ba m.bn m.bc m.da m.dn m.dc m.bss m.ra m.rn m.rc m.ia m.im m.ic m.ea m.en m.ec)] w (qB w (qI (fA m.pm))):=by
 have:=uY _ _ _ _ _ _ _ _ _ _ _ _ _ _ _ _ _ _ _ _ _ _ _ _ _ _ w h;rw [aJ4 h] at this;exact this
theorem aCo (a:qO)(n cap:Nat)(ms:List Md)(s c k d:Int)(w:qw)(h:MSD w a n cap ms):
 qC 138 #[qS a n cap,.agg (qW s c k d)] w (qB w (qI (dS (aE ms) s c k d))):=by
 have hA:qY w (w.alloc (.cells (qW s c k d) 37)):=bal;have hl:=h.s.1;have hm1:=h.s.2.1;unfold maxLen at hm1;have hpl:=bQ ms;have HH:=zh h;have HC:=zh (fun W=>uZ s c k d W);clear h;go_enter func138,ntmps138
 go_wp2_with fail
 refine (HC.o _).mono ?_;rintro e w1 ⟨rfl,hb1⟩;have HB1:=zh (hA.trans (hb1.mono (by simp)));clear hA hb1 HC;cases hcf:cfo s c k d with
 | false=>
   have HS:=zh (aIr (ps:=aE ms) hcf);go_wp2;go_ret;exact ⟨aH HS.o.symm,HB1.o⟩
 | true=>
   by_cases hn2:n<1\/4<n
   .have HS:=zh (aIq (ps:=aE ms) hcf (by omega));by_cases hn1:n<1
    .have hn1':(n:Int)<1:=by omega
     clear hn2;go_wp2;go_ret;exact ⟨aH HS.o.symm,HB1.o⟩
    .have hn1':¬ (n:Int)<1:=by omega
     have hn4':(4:Int)<(n:Int):=by omega
     clear hn2;go_wp2;go_ret;exact ⟨aH HS.o.symm,HB1.o⟩
   have hn1':¬ (n:Int)<1:=by omega
   have hn4':¬ (4:Int)<(n:Int):=by omega
   have HN2:=zh (show ¬ ((aE ms).length<1\/4<(aE ms).length) by rw [hpl,hl];exact hn2);clear hn2;go_wp2;go_loopw [5] (fun i wr=>∃ m:Nat,m<=n/\i=qI m/\(∀ j,j<m->fA ((aE ms).getD j zP)=0)/\qY w wr) (qf n)
   .exact ⟨0,xC _,rfl,fun j hj=>absurd hj (by omega),HB1.o⟩
   .obtain ⟨m,hm,rfl,hv,B⟩:=hrel;by_cases hlt:m<n
    .have hlt':(m:Int)<(n:Int):=by omega
     have H:=HH.o.bw B;obtain ⟨b,off,rfl,q0,q1,q2,q3,q4,q5,q6,q7⟩:=H.s.at m hlt;have HOK:=zh (Md.okS (H.d m hlt));rw [<- cG] at HOK;have HV:=zh hv;have HB:=zh B;obtain ⟨V,hV⟩:=eqx (fA ((aE ms).getD m zP));rw [<- hV] at HOK;have HVV:=zh hV;generalize ms.getD m aK=M at *;clear hv B H hV;go_wp2_with fail
     refine HOK.o.mono ?_;rintro e w2 ⟨rfl,hb2⟩;have HB2:=zh (HB.o.trans (hb2.mono HB.o.size));clear hb2 HOK HB q0 q1 q2 q3 q4 q5 q6 q7;by_cases hz:V=0
     .subst hz
      have HV2:=zh (show ∀ j,j<m+1->fA ((aE ms).getD j zP)=0 from fun j hj=>by
       by_cases e:j=m
       .subst e;exact HVV.o.symm
       .exact HV.o j (by omega))
      go_wp2
      go_roundw
      .exact ⟨m+1,by omega,by go_num,HV2.o,HB2.o⟩
      .simp [qf,intOf];omega
     .have hz':(V !=0)=true:=by simp [hz]
      have HS:=zh (aIp (ps:=aE ms) hcf HN2.o m (by omega) (by rw [<- HVV.o];exact hz));go_wp2;go_ret;exact ⟨aH HS.o.symm,HB2.o⟩
    .have hlt':¬ (m:Int)<(n:Int):=by omega
     have HV:Zh (fO (aE ms)):=fun i hi=>hv i (by omega);have HB:=zh B;clear hv B;go_wp2;go_loopw [6] (fun i wr=>∃ m:Nat,m<=n/\i=qI m/\(∀ i,i<m->∀ k,k<i->((aE ms).getD k zP).nm≠((aE ms).getD i zP).nm)/\qY w wr) (qf n)
     .exact ⟨0,xC _,rfl,fun j hj=>absurd hj (by omega),HB.o⟩
     .obtain ⟨p,hp,rfl,hv,B⟩:=hrel;by_cases hlt2:p<n
      .have hlt2':(p:Int)<(n:Int):=by omega
       have HP:=zh hv;have HB3:=zh B;clear hv B;go_wp2;go_loopw [7] (fun i wr=>∃ q:Nat,q<=p/\i=qI q/\(∀ k,k<q->((aE ms).getD k zP).nm≠((aE ms).getD p zP).nm)/\qY w wr) (qf p)
       .exact ⟨0,xC _,rfl,fun j hj=>absurd hj (by omega),HB3.o⟩
       .obtain ⟨q,hq,rfl,hv,B⟩:=hrel;by_cases hlt3:q<p
        .have hlt3':(q:Int)<(p:Int):=by omega
         have hqn:(q:Int)<(n:Int):=by omega
         have H:=HH.o.bw B;obtain ⟨b,off,rfl,q0,_⟩:=H.s.at q (by omega);obtain ⟨b',off',e',r0,_⟩:=H.s.at p hlt2;simp at e';obtain ⟨rfl,rfl⟩:=e';have e1:((aE ms).getD q zP).nm=(ms.getD q aK).nm:=by rw [cG];rfl
         have e2:((aE ms).getD p zP).nm=(ms.getD p aK).nm:=by rw [cG];rfl
         have HQ:=zh hv;have HB4:=zh B;by_cases hnm:(ms.getD q aK).nm=(ms.getD p aK).nm
         .have HS:=zh (aN9 (ps:=aE ms) hcf HN2.o HV.o p q (by omega) hlt3 (by rw [e1,e2];exact hnm));rw [hnm] at q0;have heq:((ms.getD p aK).nm.toList==(ms.getD p aK).nm.toList)=true:=by simp
          generalize ms.getD p aK=M at *;clear hv B H e1 e2 hnm;go_wp2_with fail
          go_quiet (fail)
          go_wp2;go_ret;exact ⟨aH HS.o.symm,iK HB4.o nq⟩
         .have hne:=aN6 hnm
          have HQ2:=zh (show ∀ k,k<q+1->((aE ms).getD k zP).nm≠((aE ms).getD p zP).nm from fun k hk=>by
           by_cases e:k=q
           .subst e;rw [e1,e2];exact hnm
           .exact HQ.o k (by omega))
          generalize (ms.getD p aK).nm=N1 at *;generalize (ms.getD q aK).nm=N2 at *;clear hv B H e1 e2 hnm;go_wp2_with fail
          go_quiet (fail)
          go_wp2
          go_roundw
          .exact ⟨q+1,by omega,by go_num,HQ2.o,iK HB4.o nq⟩
          .simp [qf,intOf];omega
        .have hlt3':¬ (q:Int)<(p:Int):=by omega
         have HQ2:=zh (show ∀ i,i<p+1->∀ k,k<i->((aE ms).getD k zP).nm≠((aE ms).getD i zP).nm from fun i hi k hk=>by
          by_cases e:i=p
          .subst e;exact hv k (by omega)
          .exact HP.o i (by omega) k hk)
         have HB4:=zh B;clear hv B;go_wp2
         go_roundw
         .exact ⟨p+1,by omega,by go_num,HQ2.o,HB4.o⟩
         .simp [qf,intOf];omega
      .have hlt2':¬ (p:Int)<(n:Int):=by omega
       have HS:=zh (aIs (ps:=aE ms) hcf HN2.o HV.o (fun i hi k hk=>hv i (by omega) k hk));have HB3:=zh B;clear hv B;go_wp2;go_ret;exact ⟨aH HS.o.symm,HB3.o⟩
structure Vm (nm:ByteArray)(tn:Nat)(tz:qi)(bn:Nat)(bl:List Bk)(dn:Nat)(bss:Int)(rn:Nat)(rz:qi)(im:Nat)(ss:List ByteArray)(en:Nat)(es:List Ex):Prop where
 n:nm.size<=12
 t:tn<=200
 tw:∀ z∈tz,0<=z/\z<=4294967295
 b:bn<=4
 bw:∀ i,i<bl.length->(bl.getD i zB).2.1<=64/\∀ z∈(bl.getD i zB).2.2.2,0<=z/\z<=4294967295
 d:dn<=512
 s:0<=bss/\bss<=512
 r:rn<=16
 rw:∀ i,i<rn->0<=rz.getD i 0/\rz.getD i 0<=512
 i:im<=16
 iw:∀ i,i<im->(ss.getD i zS).size<=25
 e:en<=16
 ew:∀ i,i<en->(es.getD i zE).1.size<=12/\-1<=(es.getD i zE).2.1/\(es.getD i zE).2.1<=4/\0<=(es.getD i zE).2.2/\(es.getD i zE).2.2<=200
theorem aFj {zs:qi}(h:wds zs=true):∀ z∈zs,0<=z/\z<=4294967295:=fun z hz=>by
 unfold wds at h;rw [List.all_eq_true] at h;simpa using h z hz
theorem mW {s:ByteArray}(h:nmo s=true):s.size<=12:=by
 unfold nmo at h;simp at h;omega
theorem aH3 {s:ByteArray}(h:fD s=true):s.size<=25:=by
 unfold fD at h;simp only [Bool.and_eq_true,decide_eq_true_eq] at h;obtain ⟨h0,h1,h2⟩:=h;have a1:=mW h1;have a2:=mW h2;have hd:=lF s;unfold dG at a1;unfold eE at a2;simp only [ByteArray.size_extract] at a1 a2;omega
theorem zM {f:Nat->Bool}(h:(List.range n).all f=true)(i:Nat)(hi:i<n):f i=true:=by
 rw [List.all_eq_true] at h;exact h i (by simpa using hi)
theorem kY {nm:ByteArray}{tn:Nat}{tz:qi}{bn:Nat}{bl:List Bk}{dn:Nat}{bss:Int}{rn:Nat}{rz:qi}{im:Nat}{ss:List ByteArray}{en:Nat}{es:List Ex}(hbl:bl.length=bn)(h:mdo nm tn tz bn bl dn bss rn rz im ss en es=0):Vm nm tn tz bn bl dn bss rn rz im ss en es:=by
 unfold mdo at h;by_cases c1:nmo nm=false
 .rw [if_pos c1] at h;simp at h
 rw [if_neg c1] at h;by_cases c2:cdo tn tz bn bl=false
 .rw [if_pos c2] at h;simp at h
 rw [if_neg c2] at h;by_cases c3:512<dn\/bss<0\/512<bss
 .rw [if_pos c3] at h;simp at h
 rw [if_neg c3] at h;by_cases c4:rlo rn rz dn=false
 .rw [if_pos c4] at h;simp at h
 rw [if_neg c4] at h;by_cases c5:imo im ss=false
 .rw [if_pos c5] at h;simp at h
 rw [if_neg c5] at h;by_cases c6:exo tn bn bl en es=false
 .rw [if_pos c6] at h;simp at h
 simp only [Bool.not_eq_false] at c1 c2 c4 c5 c6;unfold cdo at c2;unfold rlo at c4;unfold imo at c5;unfold exo at c6;simp only [Bool.and_eq_true,decide_eq_true_eq] at c2 c4 c5 c6;obtain ⟨⟨t1,t2⟩,t3,t4⟩:=c2
 have hb:∀ i,i<bl.length->(bl.getD i zB).2.1<=64/\∀ z∈(bl.getD i zB).2.2.2,0<=z/\z<=4294967295:=fun i hi=>by
  rw [List.all_eq_true] at t4;have hm:bl.getD i zB∈bl:=by simp [xB,hi]
  have:=t4 _ hm;unfold bko at this;simp only [Bool.and_eq_true,decide_eq_true_eq] at this;exact ⟨this.1.2,aFj this.2⟩
 refine ⟨mW c1,t1,aFj t3,t2,hb,by omega,by omega,c4.1,fun i hi=>?_,c5.1,fun i hi=>aH3 (zM c5.2 i hi),c6.1,fun i hi=>?_⟩
 .have:=zM c4.2 i hi;unfold rlk at this;simp only [Bool.and_eq_true,decide_eq_true_eq] at this;omega
 .have:=zM c6.2 i hi;unfold ex1 at this;simp only [Bool.and_eq_true,decide_eq_true_eq] at this;obtain ⟨⟨n1,a1,a2⟩,_⟩:=this;have n2:=mW n1
  have hp:pcn tn bn bl (es.getD i zE).2.1<=200/\(0<pcn tn bn bl (es.getD i zE).2.1->-1<=(es.getD i zE).2.1/\(es.getD i zE).2.1<=4):=by
   unfold pcn;split
   .omega
   .split
    .next h1 h2=>
     have:=(hb (es.getD i zE).2.1.toNat (by omega)).1;omega
    .omega
  have:=hp.2 (by omega);omega
def clG (t:Tg):List Value:=[qI t.1,qI t.2.1,qI t.2.2]
theorem aNv:(prog.info? 58).map (fun i=>(i.zero,i.size,i.bytes))=some (some (.agg (qT 0 0 0)),3,24):=by kernel_rfl
theorem bI {α:Type}(t:TypeId)(sz:Nat)(f:α->List Value)(w:qw)(base:Nat)(hb:base<=w.heap.size):OG t sz f (w.alloc (.cells #[] t)) base (qS (qP w.heap.size) 0 0) []:=
 ⟨by simp,.inr ⟨w.heap.size,0,#[],rfl,hb,heap_alloc_new w _,aN,by unfold maxLen;omega,by simp,by simp⟩⟩
theorem aK8 {a W W':qw}(h:qY a W)(hg:W.grownBy W' row)(hr:∀ k,row=some k->a.heap.size<=k):qY a W':=
 aG h ⟨hg.os,hg.tape,hg.output,hg.size,fun j hj (hs:¬ row=some j)=>hg.block j hj (fun e=>hs e.symm)⟩ hr h.size
theorem eH {W W':qw}{k:Nat}{cs:Array Value}{t:TypeId}(h:Blk W k cs t)(hg:W.grownBy W' row)(hr:some k≠row):Blk W' k cs t:=
 aF (S:=fun j=>row=some j) ⟨hg.os,hg.tape,hg.output,hg.size,fun j hj hs=>hg.block j hj (fun e=>hs e.symm)⟩ h (fun e=>hr e.symm)
def tgN (ps:List PMod)(P:PMod)(m:Nat):List Tg:=(List.range m).map fun i=>(gZ ps (P.ss.getD i zS)).getD zT
theorem gN (ps:List PMod)(P:PMod)(m:Nat):(tgN ps P m).length=m:=by simp [tgN]
theorem aBo (ps:List PMod)(P:PMod)(m:Nat){t:Tg}(h:gZ ps (P.ss.getD m zS)=some t):tgN ps P (m+1)=tgN ps P m++[t]:=by
 simp only [tgN,List.range_succ,List.map_append,List.map_cons,List.map_nil,h,Option.getD_some]
theorem aLj (ps:List PMod)(P:PMod):tgN ps P P.ss.length=tgs ps P:=rfl
theorem bZ {P:PMod}(h:fA P=0):P.es.length<=16/\P.ss.length<=16/\P.tz.length<=200/\P.bl.length<=4/\P.dz.length<=512/\0<=P.bss/\P.bss<=512/\∀ k,k<P.bl.length->(P.bl.getD k []).length<=64:=by
 unfold fA at h;have V:=kY (by simp [lM]) h;refine ⟨V.e,V.i,V.t,V.b,V.d,V.s.1,V.s.2,fun k hk=>?_⟩;have:=(V.bw k (by simp [lM];exact hk)).1;simpa [lM,xB,hk] using this
theorem MSD.es {w:qw}(h:MSD w a n cap ms)(hv:fO (aE ms)):∀ i,i<n->ES w (ms.getD i aK).ea (ms.getD i aK).en (ms.getD i aK).ec (ms.getD i aK).es/\(ms.getD i aK).en<=1048576:=fun i hi=>by
 have hl:=h.s.1;have e:=(h.d i hi).e;refine ⟨e,?_⟩;have h1:=(bZ (hv i (by rw [bQ];omega))).1;rw [cG] at h1;have h2:(ms.getD i aK).pm.es.length=(ms.getD i aK).en:=e.1;omega
theorem MSD.resS {w:qw}(h:MSD w a n cap ms)(hv:fO (aE ms))(hn:n<=4)(s:ByteArray)(hs:s.size<=1048576):qC 58 #[qS a n cap,.string s] w (qB w (tgV (gZ (aE ms) s))):=by
 have:=zH a n cap ms s w h.s (by omega) hs (h.es hv);rw [aI3 h.s.1 (fun i hi=>(h.d i hi).e.1)] at this;exact this
theorem MSD.resI {w:qw}(h:MSD w a n cap ms)(hv:fO (aE ms))(hn:n<=4)(s:ByteArray)(hs:s.size<=1048576):qC 63 #[qS a n cap,.string s] w (qB w (tgV (gZ (aE ms) s))):=by
 have:=aAt a n cap ms s w h.s (by omega) hs (h.es hv);rw [aI3 h.s.1 (fun i hi=>(h.d i hi).e.1)] at this;exact this
theorem lS (a:qO)(n cap:Nat)(ms:List Md)(M:Md)(w:qw)(h:MSD w a n cap ms)(hv:fO (aE ms))(hn:n<=4)(hM:M.md w)(hok:fA M.pm=0):
 qC 139 #[qS a n cap,.agg (qM M.nm M.ta M.tn M.tc M.ba M.bn M.bc M.da M.dn M.dc M.bss M.ra M.rn M.rc M.ia M.im M.ic M.ea M.en M.ec)] w fun e w'=>qY w w'/\((¬ pJ (aE ms) M.pm/\∃ v,e=.returned (.tuple #[v,.bool false]))\/(pJ (aE ms) M.pm/\∃ a c,e=.returned (.tuple #[.slice a (tgs (aE ms) M.pm).length c,.bool true])/\OG 58 3 clG w' w.heap.size (.slice a (tgs (aE ms) M.pm).length c) (tgs (aE ms) M.pm))):=by
 obtain ⟨iG,hi,hz0,hz1,hz2⟩:=info_parts aNv;have hA:qY w (w.alloc (.cells (qM M.nm M.ta M.tn M.tc M.ba M.bn M.bc M.da M.dn M.dc M.bss M.ra M.rn M.rc M.ia M.im M.ic M.ea M.en M.ec) 138)):=bal;have k0:=Blk.new w (qM M.nm M.ta M.tn M.tc M.ba M.bn M.bc M.da M.dn M.dc M.bss M.ra M.rn M.rc M.ia M.im M.ic M.ea M.en M.ec) 138;have him:M.im<=16:=by have h1:=(bZ hok).2.1;have h2:M.pm.ss.length=M.im:=hM.i.1;omega
 have hil:M.pm.ss.length=M.im:=hM.i.1;have HS:=zh (fun (W:qw) (hb:qY w W) (s:ByteArray) (hs:s.size<=1048576)=>(h.bw hb).resS hv hn s hs);have HI:=zh hM.i;have O0:=bI 58 3 clG (w.alloc (.cells (qM M.nm M.ta M.tn M.tc M.ba M.bn M.bc M.da M.dn M.dc M.bss M.ra M.rn M.rc M.ia M.im M.ic M.ea M.en M.ec) 138)) w.heap.size hA.size;have hA2:=hA.trans (((Below.refl _ (w.alloc (.cells (qM M.nm M.ta M.tn M.tc M.ba M.bn M.bc M.da M.dn M.dc M.bss M.ra M.rn M.rc M.ia M.im M.ic M.ea M.en M.ec) 138))).alloc aN (.cells #[] 58)).mono hA.size);have k1:=k0.alloc (.cells #[] 58);try unfold qY at *
 simp only [xF] at O0;have HP:=zh (xA O0 (xA hA2 k1));clear O0 hA hA2 k0 k1 h hM hok;go_enter func139,ntmps139
 go_wp2_with fail
 go_loopw [6,7] (fun x i wr=>∃ m:Nat,m<=M.im/\i=qI m/\(∀ j,j<m->(gZ (aE ms) (M.pm.ss.getD j zS)).isSome=true)/\OG 58 3 clG wr w.heap.size x (tgN (aE ms) M.pm m)/\qY w wr/\Blk wr w.heap.size (qM M.nm M.ta M.tn M.tc M.ba M.bn M.bc M.da M.dn M.dc M.bss M.ra M.rn M.rc M.ia M.im M.ic M.ea M.en M.ec) 138) (fun _ i _=>M.im-(intOf i).toNat)
 .exact ⟨0,xC _,rfl,fun j hj=>absurd hj (by omega),HP.o.1,HP.o.2.1,HP.o.2.2⟩
 .clear HP;obtain ⟨m,hm,rfl,hs,O,B,k⟩:=hrel;have q6:=k.e6;obtain ⟨a',c',rfl⟩:=aS O;rw [gN] at *;by_cases hlt:m<M.im
  .have hlt':(m:Int)<(M.im:Int):=by omega
   obtain ⟨_,_,hsz,hcs,_⟩:=HI.o;obtain ⟨b,off,hia,hc⟩:=hcs (by omega);have c0:=((B.cell (xD w _ (hc m hlt))).trans (hc m hlt));have hss:(M.ss.getD m zS).size<=1048576:=hsz _ (by have:=HI.o.1;simp [xB,show m<M.ss.length by omega]);have HR:=zh (HS.o wr B (M.ss.getD m zS) hss);rw [hia] at q6;clear hia;have HQ:=zh (xA O (xA B k));have HSS:=zh hs;have HTS:=zh (fun t (h:gZ (aE ms) (M.ss.getD m zS)=some t)=>aBo (ps:=aE ms) (P:=M.pm) m h);have HBAD:=zh (fun (h:gZ (aE ms) (M.ss.getD m zS)=none)=>(show ¬ pJ (aE ms) M.pm from fun hk=>by have:=hk m (by rw [hil];exact hlt);rw [show M.pm.ss.getD m zS=M.ss.getD m zS from rfl,h] at this;cases this))
   have HGO:=zh (fun t (h:gZ (aE ms) (M.ss.getD m zS)=some t)=>(show ∀ j,j<m+1->(gZ (aE ms) (M.pm.ss.getD j zS)).isSome=true from fun j hj=>by
    by_cases e:j=m
    .subst e;rw [show M.pm.ss.getD j zS=M.ss.getD j zS from rfl,h];rfl
    .exact HSS.o j (by omega)))
   generalize M.ss.getD m zS=str at *;clear O B k hs hc hsz hcs HI HSS;go_wp2_with fail
   refine HR.o.mono ?_;rintro e w1 ⟨rfl,hb1⟩;obtain ⟨O,B,k⟩:=HQ.o;have B1:=B.trans (hb1.mono B.size);cases ho:gZ (aE ms) str with
   | none=>
     have HF:=zh (xA (B1.trans (((Below.refl _ w1).alloc aN (.cells (qT 0 0 0) 58)).mono B1.size)) (HBAD.o ho));clear O B k hb1 B1 HQ HR HTS HBAD HGO q6 c0;unfold tgV;go_wp2
     go_ret2
     exact ⟨HF.o.1,.inl ⟨HF.o.2,_,rfl⟩⟩
   | some t=>
     obtain ⟨t1,t2,t3⟩:=t;have al1:qY w1 (w1.alloc (.cells (qT t1 t2 t3) 58)):=bal;have hs1:(w1.alloc (.cells (qT t1 t2 t3) 58)).heap.size=w1.heap.size+1:=by simp
     have k1:=Blk.new w1 (qT t1 t2 t3) 58;have O2:=(O.bw hb1).bw al1;have B2:=B1.trans (al1.mono B1.size);have kk2:=(k.bw hb1).bw al1;have HT2:=zh (HTS.o _ ho);have HG2:=zh (HGO.o _ ho);obtain ⟨x0,x1,x2,_⟩:=k1.three;clear O B k hb1 B1 HQ HR HTS HBAD HGO q6 c0 al1;generalize hW1:w1.alloc (.cells (qT t1 t2 t3) 58)=W1 at *;have HOW:=zh (show (W1.alloc (.cells (qT t1 t2 t3) 58)).ownsRow w.heap.size 58 3 (qS a' m c') m ((tgN (aE ms) M.pm m).flatMap clG) by have:=O2.bw (brf.alloc aN (.cells (qT t1 t2 t3) 58));unfold OG at this;rw [gN] at this;exact this);have HX:=zh (xA O2 (xA B2 kk2));have hsB:=B2.size;rw [<- hW1] at x0 x1 x2;have HW1:=zh hW1;clear O2 B2 kk2 k1 hW1;unfold tgV;go_wp2_with (at_builtin;rw [HW1.o];refine wpList_append_own _ rfl _ _ 190 rfl w.heap.size 58 iG (.agg (qT 0 0 0)) 3 24 underlying190 hi hz0 hz1 hz2 rfl (by decide) (qS a' m c') m ((tgN (aE ms) M.pm m).flatMap clG) rfl HOW.o (qR (w1.heap.size+1) 0) 1 1 (clG (t1,t2,t3)) rfl rfl (by rw [<- hs1];exact bS W1 _ _ (clG (t1,t2,t3)) rfl) (by intro u hu;simp [clG] at hu;rcases hu with rfl|rfl|rfl<;>rfl) (by unfold maxLen;omega) (by omega) (by simp;omega) ?_;intro v' w4 hown hgr _)
     obtain ⟨O2,B2,kk2⟩:=HX.o;have al2:qY W1 (W1.alloc (.cells (qT t1 t2 t3) 58)):=bal;have hrow:∀ j,(qS a' m c').ownBlock=some j->w.heap.size<=j:=fun j hj=>(O2.lt j hj).1
     have O4:OG 58 3 clG w4 w.heap.size v' (tgN (aE ms) M.pm (m+1)):=by
      unfold OG;rw [gN,HT2.o,xU,xX];exact hown
     have B4:=aK8 (B2.trans (al2.mono B2.size)) hgr hrow
     have k4:=eH (kk2.bw al2) hgr (fun e=>by
      obtain ⟨cs,hk⟩:=aD O2 e.symm
      exact absurd (aI kk2 hk) (by decide))
     have HF:=zh (xA HG2.o (xA O4 (xA B4 k4)));clear O2 B2 kk2 al2 hrow O4 B4 k4 hown hgr HX HOW x0 x1 x2
     go_roundw
     .exact ⟨m+1,by omega,by go_num,HF.o.1,HF.o.2.1,HF.o.2.2.1,HF.o.2.2.2⟩
     .simp [intOf];omega
  .have hlt':¬ (m:Int)<(M.im:Int):=by omega
   have HK:Zh (pJ (aE ms) M.pm):=fun j hj=>hs j (by omega);have HX:=zh (xA B O);have HEQ:=zh (show tgN (aE ms) M.pm m=tgs (aE ms) M.pm by rw [<- aLj,hil,show m=M.im by omega]);have HLN:=zh (show m=(tgs (aE ms) M.pm).length by rw [<- HEQ.o,gN]);clear B O k hs;go_wp2
   go_ret2
   refine ⟨HX.o.1,.inr ⟨HK.o,a',c',by rw [<- HLN.o];rfl,?_⟩⟩;have:=HX.o.2;rw [HEQ.o] at this;rw [<- HLN.o];exact this
theorem OG.kept' {α:Type}{t:TypeId}{sz:Nat}{f:α->List Value}{w w':qw}{base:Nat}{v:Value}{xs:List α}(h:OG t sz f w base v xs)(hg:w.grownBy w' row)(hk:∀ k,v.ownBlock=some k->row≠some k):OG t sz f w' base v xs:=
 h.kept (S:=fun j=>row=some j) ⟨hg.os,hg.tape,hg.output,hg.size,fun j hj hs=>hg.block j hj (fun e=>hs e.symm)⟩ (fun k hk' e=>hk k hk' e)
structure OR {α β:Type}(th:TypeId)(hs:Nat)(hc:α->List Value)(tr:TypeId)(rs:Nat)(rc:β->List Value)(sv:α->Value)(ct:α->List β)(w:qw)(base lo:Nat)(v:Value)(xs:List α):Prop where
 head:OG th hs hc w base v xs
 rows:∀ x∈xs,OG tr rs rc w lo (sv x) (ct x)
 apart:xs.Pairwise fun A B=>∀ k,(sv A).ownBlock=some k->(sv B).ownBlock≠some k
section
variable {α β:Type}{th:TypeId}{hs:Nat}{hc:α->List Value}{tr:TypeId}{rs:Nat}{rc:β->List Value}{sv:α->Value}{ct:α->List β}{w w':qw}{base lo:Nat}{v:Value}{xs:List α}
theorem OR.bw (h:OR th hs hc tr rs rc sv ct w base lo v xs)(hb:qY w w'):OR th hs hc tr rs rc sv ct w' base lo v xs:=⟨h.head.bw hb,fun x hx=>(h.rows x hx).bw hb,h.apart⟩
theorem OR.mono {base':Nat}(h:OR th hs hc tr rs rc sv ct w base lo v xs)(hb:base'<=base)(hl:lo'<=lo):OR th hs hc tr rs rc sv ct w base' lo' v xs:=⟨h.head.mono hb,fun x hx=>(h.rows x hx).mono hl,h.apart⟩
theorem OR.kept {S:Nat->Prop}(h:OR th hs hc tr rs rc sv ct w base lo v xs)(t:Turn S w w')(h1:∀ k,v.ownBlock=some k->¬ S k)(h2:∀ x∈xs,∀ k,(sv x).ownBlock=some k->¬ S k):OR th hs hc tr rs rc sv ct w' base lo v xs:=⟨h.head.kept t h1,fun x hx=>(h.rows x hx).kept t (h2 x hx),h.apart⟩
theorem OR.lt (h:OR th hs hc tr rs rc sv ct w base lo v xs):(∀ k,v.ownBlock=some k->base<=k/\k<w.heap.size)/\∀ x∈xs,∀ k,(sv x).ownBlock=some k->lo<=k/\k<w.heap.size:=⟨h.head.lt,fun x hx=>(h.rows x hx).lt⟩
theorem aAa:OR th hs hc tr rs rc sv ct w base lo (qS none 0 0) []:=⟨fI _ _ _ _ _,by simp,by simp⟩
theorem aJk (hb:base<=w.heap.size):OR th hs hc tr rs rc sv ct (w.alloc (.cells #[] th)) base lo (qS (qP w.heap.size) 0 0) []:=⟨bI _ _ _ _ _ hb,by simp,by simp⟩
theorem OR.push {k c:Nat}{v':Value}{x:α}(h:OR th hs hc tr rs rc sv ct w base lo (qS a k c) xs)(hl:xs.length=k)(hx:OG tr rs rc w lo' (sv x) (ct x))(hb:lo<=lo')(hlo:∀ A∈xs,∀ j,(sv A).ownBlock=some j->j<lo')(hown:w'.ownsRow base th hs v' (k+1) (xs.flatMap hc++hc x))(hg:w.grownBy w' (qS a k c).ownBlock)(hne:th≠tr):OR th hs hc tr rs rc sv ct w' base lo v' (xs++[x]):=by
 have key:∀ (u:Value) (ys:List β) (l:Nat),OG tr rs rc w l u ys->∀ j,u.ownBlock=some j->(qS a k c).ownBlock≠some j:=fun u ys l ho j hj e=>by
  obtain ⟨c1,k1⟩:=aD ho hj;obtain ⟨c2,k2⟩:=aD h.head e;exact hne (aI k2 k1)
 refine ⟨?_,?_,?_⟩
 .unfold OG;rw [xI,hl,xU,xX];exact hown
 .intro B hB;rcases List.mem_append.1 hB with hB|hB
  .exact (h.rows B hB).kept' hg (key _ _ _ (h.rows B hB))
  .simp at hB;subst hB;exact (hx.kept' hg (key _ _ _ hx)).mono hb
 .rw [List.pairwise_append];refine ⟨h.apart,by simp,fun B hB X hX j hj e=>?_⟩;simp at hX;subst hX;have h1:=hlo B hB j hj;have h2:=(hx.lt j e).1;omega
end
abbrev PB:=Pl×qO×Nat
def svP (x:PB):Value:=qS x.2.1 x.1.banks.length x.2.2
def clP (x:PB):List Value:=[qI x.1.text,svP x,qI x.1.data,qI x.1.size]
def ctP (x:PB):List Int:=x.1.banks
abbrev OPl:=OR 171 4 clP 3 1 clI svP ctP
abbrev TB:=List Tg×qO×Nat
def svT (x:TB):Value:=qS x.2.1 x.1.length x.2.2
def aA8 (x:TB):List Value:=[svT x]
def ctT (x:TB):List Tg:=x.1
abbrev OTg:=OR 190 1 aA8 58 3 clG svT ctT
structure LayO (W:qw)(base:Nat)(L:Lay)(a0:qO)(c0:Nat)(xs:List PB)(a2:qO)(c2:Nat)(a5:qO)(c5:Nat)(ts:List TB):Prop where
 p:OPl W base base (qS a0 xs.length c0) xs
 ps:xs.map (fun x=>x.1)=L.places
 s:OG 3 1 clI W base (qS a2 L.slots.length c2) L.slots
 t:OTg W base base (qS a5 ts.length c5) ts
 tt:ts.map (fun x=>x.1)=L.targets
 sp:∀ k,(qS a2 L.slots.length c2).ownBlock=some k->∀ x∈xs,(svP x).ownBlock≠some k
def mF (L:Lay)(a0:qO)(c0:Nat)(xs:List PB)(a2:qO)(c2:Nat)(a5:qO)(c5:Nat)(ts:List TB):Array Value:=(qL L a0 xs.length c0 a2 L.slots.length c2 a5 ts.length c5)
theorem aNu:(prog.info? 171).map (fun i=>(i.zero,i.size,i.bytes))=some (some (.agg #[qI 0,qS none 0 0,qI 0,qI 0]),4,48):=by kernel_rfl
theorem aKf:(prog.info? 190).map (fun i=>(i.zero,i.size,i.bytes))=some (some (qS none 0 0),1,24):=by kernel_rfl
