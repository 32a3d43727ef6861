import Derived.Test.YtncccmeomcaabaaGreatR07
set_option linter.all false
set_option maxHeartbeats 4000000
namespace Go.Proofs.YtncccmeomcaabaaGreat
open Go.RowKit Go.Maps
open Go.Proofs.Tryz
set_option maxRecDepth 100000
variable {ms:List Md}{n:Nat}{s:ByteArray}
def aLf (m m':Md):Prop:=m.nm=m'.nm/\m.tn=m'.tn/\m.tz=m'.tz/\m.bn=m'.bn/\(∀ i,i<m.bn->(m'.bl.getD i zB).2.1=(m.bl.getD i zB).2.1/\(m'.bl.getD i zB).2.2.2=(m.bl.getD i zB).2.2.2)/\m.dn=m'.dn/\m.dz=m'.dz/\m.bss=m'.bss/\m.rn=m'.rn/\m.rz=m'.rz/\m.im=m'.im/\m.ss=m'.ss/\m.en=m'.en/\m.es=m'.es
theorem aBw {c c':Nat}{m x y:Md}{W W':qw}(hb:m.bl.length=m.bn)(h:eK c m x W)(h':eK c' m y W'):aLf x y:=by
 obtain ⟨_,_,_,_,_,_,gs,rfl,_⟩:=h;obtain ⟨_,_,_,_,_,_,gs',rfl,_⟩:=h';exact ⟨rfl,rfl,rfl,rfl,fun i hi=>by dsimp only at hi ⊢;rw [gW _ _ _,gW _ _ _];exact ⟨rfl,rfl⟩,rfl,rfl,rfl,rfl,rfl,rfl,rfl,rfl,rfl⟩
theorem tV (a a':qO)(n cap cap':Nat)(ms ms':List Md)(w:qw)(h:MS w a n cap ms)(h':MS w a' n cap' ms')(hz:∀ i,i<n->aLf (ms.getD i aK) (ms'.getD i aK)):
 qC 42 #[qS a n cap,qS a' n cap'] w (qB w (.bool true)):=by
 have hmx:=h.2.1;unfold maxLen at hmx;have hne:((n:Int) !=(n:Int))=false:=by simp
 go_enter func42,ntmps42
 go_wp2;go_loopw [5] (fun i wr=>∃ k:Nat,k<=n/\i=qI k/\qY w wr) (qf n)
 .exact ⟨0,xC _,rfl,brf⟩
 .obtain ⟨k,hk,rfl,hB⟩:=hrel;by_cases hlt:k<n
  .have hlt':(k:Int)<(n:Int):=by omega
   obtain ⟨b,off,rfl,q0,q1,q2,q3,q4,q5,q6,q7⟩:=(h.bw hB).at k hlt;obtain ⟨b',off',rfl,p0,p1,p2,p3,p4,p5,p6,p7⟩:=(h'.bw hB).at k hlt;have m1:=(h.bw hB).2.2.2.1 k hlt;have m2:=(h'.bw hB).2.2.2.1 k hlt;have hs:=hz k hlt;generalize ms.getD k aK=m at *;generalize ms'.getD k aK=m' at *;obtain ⟨nm,ta,tn,tc,tz,ba,bn,bc,bl,da,dn,dc,dz,bss,ra,rn,rc,rz,ia,im,ic,ss,ea,en,ec,es⟩:=m;obtain ⟨nm',ta',tn',tc',tz',ba',bn',bc',bl',da',dn',dc',dz',bss',ra',rn',rc',rz',ia',im',ic',ss',ea',en',ec',es'⟩:=m';obtain ⟨e1,e2,e3,e4,hbl,e5,e6,e7,e8,e9,e10,e11,e12,e13⟩:=hs;dsimp only at e1 e2 e3 e4 hbl e5 e6 e7 e8 e9 e10 e11 e12 e13 q0 q1 q2 q3 q4 q5 q6 q7 p0 p1 p2 p3 p4 p5 p6 p7;subst e1 e2 e3 e4 e5 e6 e7 e8 e9 e10 e11 e12 e13;have HE:=zh (fun w h h'=>vT nm ta ta' tn tc tc' tz ba ba' bn bc bc' bl bl' da da' dn dc dc' dz bss ra ra' rn rc rc' rz ia ia' im ic ic' ss ea ea' en ec ec' es w h h' hbl);clear hbl;have HM:=zh (xA m1 m2);clear m1 m2;go_wp2
   go_region_held3 (fun w'=>w'.cell? (qR b (off+k*8))=some (.string nm)/\w'.cell? (qR b (off+k*8+1))=some (qS ta tn tc)/\w'.cell? (qR b (off+k*8+2))=some (qS ba bn bc)/\w'.cell? (qR b (off+k*8+3))=some (qS da dn dc)/\w'.cell? (qR b (off+k*8+4))=some (qI bss)/\w'.cell? (qR b (off+k*8+5))=some (qS ra rn rc)/\w'.cell? (qR b (off+k*8+6))=some (qS ia im ic)/\w'.cell? (qR b (off+k*8+7))=some (qS ea en ec)/\w'.cell? (qR b' (off'+k*8))=some (.string nm)/\w'.cell? (qR b' (off'+k*8+1))=some (qS ta' tn tc')/\w'.cell? (qR b' (off'+k*8+2))=some (qS ba' bn bc')/\w'.cell? (qR b' (off'+k*8+3))=some (qS da' dn dc')/\w'.cell? (qR b' (off'+k*8+4))=some (qI bss)/\w'.cell? (qR b' (off'+k*8+5))=some (qS ra' rn rc')/\w'.cell? (qR b' (off'+k*8+6))=some (qS ia' im ic')/\w'.cell? (qR b' (off'+k*8+7))=some (qS ea' en ec')) (go_keep)
    (first
      | (go_at_call 99;refine (HE.o _ (MT.bw HM.o.1 brf.drew) (MT.bw HM.o.2 brf.drew)).mono ?_;rintro e w1 ⟨rfl,hb1⟩;replace hb1:=dF hb1;obtain ⟨hc1,hf1⟩:=aK9 hb1;have hlb:=xD _ _ q0;have hlb':=xD _ _ p0))
   clear hc1 hf1 q0 q1 q2 q3 q4 q5 q6 q7 p0 p1 p2 p3 p4 p5 p6 p7;go_wp2
   go_roundw
   .exact ⟨k+1,by omega,by go_num,hB.trans (hb1.mono hB.size)⟩
   .simp [qf,intOf];omega
  .go_wp2;go_ret;exact ⟨rfl,hB⟩
theorem sJ (m:Md)(w:qw):qC 123 #[.agg m.cells] w (qB w (.string m.nm)):=by
 unfold Md.cells;go_enter func123,ntmps123
 go_wp2;go_ret;exact ⟨rfl,bal⟩
def cS (ms:List Md)(i:Nat):List UInt8:=(ms.getD i aK).nm.data.toList
theorem nD (a:qO)(n cap:Nat)(ms:List Md)(w:qw)(h:MS w a n cap ms)(hn:n<=1048576):
 qC 122 #[qS a n cap,.func (.func 123) #[] #[]] w fun e w'=>e=.returned (.map (some w.heap.size))/\w'.ownsMap prog 9 (plainElem prog 3) w.heap.size n (fd (cS ms) n)/\qY w w':=by
 have hmm:=iA;have hm1:=h.2.1;unfold maxLen at hm1;go_enter func122,ntmps122
 go_wp2;go_loopw [16] (fun i wr=>∃ k:Nat,k<=n/\i=qI k/\wr.ownsMap prog 9 (plainElem prog 3) w.heap.size k (fd (cS ms) k)/\qY w wr) (qf n)
 .exact ⟨0,xC _,rfl,World.ownsMap_made _ _ _ _,bal⟩
 .obtain ⟨k,hk,rfl,hown,hB⟩:=hrel;by_cases hlt:k<n
  .have hlt':(k:Int)<(n:Int):=by omega
   obtain ⟨bb,off,rfl,q0,q1,q2,q3,q4,q5,q6,q7⟩:=(h.bw hB).at k hlt;have hsz:=(h.2.2.2.1 k hlt).n;have HX:=zh (jE (cS ms) k);have hkl:cS ms k=(ms.getD k aK).nm.data.toList:=rfl;rw [hkl] at HX;clear hkl;generalize ms.getD k aK=m at *;obtain ⟨nm,ta,tn,tc,tz,ba,bn,bc,bl,da,dn,dc,dz,bss,ra,rn,rc,rz,ia,im,ic,ss,ea,en,ec,es⟩:=m;dsimp only at q0 q1 q2 q3 q4 q5 q6 q7 hsz HX;have HKEY:Zh (keyOf prog 9 (.string nm)=some (.string nm.data.toList)):=Go.WideMaps.keyOf_string_mk underlying9 hsz;have HMN:=zh (fun w=>sJ ⟨nm,ta,tn,tc,tz,ba,bn,bc,bl,da,dn,dc,dz,bss,ra,rn,rc,rz,ia,im,ic,ss,ea,en,ec,es⟩ w);have hA:qY wr (wr.alloc (.cells (qM nm ta tn tc ba bn bc da dn dc bss ra rn rc ia im ic ea en ec) 138)):=bal;go_wp2_with fail
   refine (HMN.o _).mono ?_;rintro e w1 ⟨rfl,hb1⟩;have hb1':=hA.trans (hb1.mono hA.size);have hB1:=hB.trans (hb1'.mono hB.size)
   have hown1:w1.ownsMap prog 9 (plainElem prog 3) w.heap.size k (fd (cS ms) k):=by
    obtain ⟨es',cl,hh,r⟩:=hown;refine ⟨es',cl,?_,r⟩
    have hl:w.heap.size<wr.heap.size:=by
     rcases Nat.lt_or_ge w.heap.size wr.heap.size with h'|h'
     .exact h'
     .rw [Array.getElem?_eq_none h'] at hh;cases hh
    rw [hb1'.block _ hl];exact hh
   clear hown hA hb1 hb1' q0 q1 q2 q3 q4 q5 q6 q7;cases hh:has (fd (cS ms) k) (.string nm.data.toList)
   .rw [hh] at HX
    go_wp2_with (first
     | (at_lookup;refine wpList_lookup_own_ok_int _ rfl _ _ 176 rfl 9 3 .i64 vH underlying176 underlying3 (oV _) w.heap.size k _ rfl hown1 _ _ rfl HKEY.o ?_;intro c hat hwc;clear hat;rw [hh])
     | (at_mapUpdate;refine wpList_mapUpdate_own _ rfl _ _ _ 176 rfl 9 3 vH underlying176 _ w.heap.size k _ rfl hown1 (by unfold maxLen;omega) _ _ _ rfl rfl HKEY.o _ [] (plainElem_int underlying3 (WalkArith.wf_i64 (by omega))) ?_;intro w2 hown2 hgr2))
    have HO:=zh hown2;have HB2:=zh (hB1.grown hgr2 hB1.size (fun j hj=>by cases hj;exact aN));clear hown2 hgr2 hown1;go_wp2
    go_roundw
    .exact ⟨k+1,by omega,by go_num,by have:=HO.o;rw [HX.o,if_neg (by simp)];exact this,HB2.o⟩
    .simp [qf,intOf];omega
   .rw [hh] at HX
    go_wp2_with (first
     | (at_lookup;refine wpList_lookup_own_ok_int _ rfl _ _ 176 rfl 9 3 .i64 vH underlying176 underlying3 (oV _) w.heap.size k _ rfl hown1 _ _ rfl HKEY.o ?_;intro c hat hwc;clear hat;rw [hh]))
    have HO:=zh hown1;clear hown1;go_wp2
    go_roundw
    .exact ⟨k+1,by omega,by go_num,by have:=HO.o;rw [HX.o,if_pos trivial];exact this.mono (by omega),hB1⟩
    .simp [qf,intOf];omega
  .have e:Zh (k=n):=by show k=n;omega
   go_wp2;go_ret;exact ⟨rfl,by rw [e.o] at hown;exact hown,hB⟩
def tbf (n:Nat)(ms:List Md):Bool:=decide (n<=4)&&(List.range n).all fun i=>decide ((ms.getD i aK).en<=16)
theorem uQ (a:qO)(n cap:Nat)(ms:List Md)(w:qw)(h:MS w a n cap ms):
 qC 121 #[qS a n cap] w (qB w (.bool (tbf n ms))):=by
 have hm1:=h.2.1;unfold maxLen at hm1;obtain ⟨r,hr⟩:=eqx (tbf n ms);rw [<- hr];unfold tbf at hr;by_cases c1:4<n
 .have HR:=zh (show r=false by rw [hr,xS (by omega)];rfl);clear hr;have c1':(4:Int)<(n:Int):=by omega
  go_enter func121,ntmps121
  go_wp2;go_ret;exact ⟨aA HR.o.symm,brf⟩
 .have c1':¬ (4:Int)<(n:Int):=by omega
  have HR:=zh (show r=(List.range n).all (fun i=>decide ((ms.getD i aK).en<=16)) by rw [hr,xR (by omega)];rfl);clear hr;go_enter func121,ntmps121
  go_wp2_with fail
  go_loopw [10] (fun i wr=>∃ k:Nat,k<=n/\i=qI k/\Hid (∀ j,j<k->decide ((ms.getD j aK).en<=16)=true)/\qY w wr) (qf n)
  .exact ⟨0,xC _,rfl,zh (fun j hj=>by omega),brf⟩
  .obtain ⟨k,hk,rfl,HJ,hB⟩:=hrel;by_cases hlt:k<n
   .have hlt':(k:Int)<(n:Int):=by omega
    obtain ⟨bb,off,rfl,q0,q1,q2,q3,q4,q5,q6,q7⟩:=(h.bw hB).at k hlt;have HZ:=zh (fR (fun i=>decide ((ms.getD i aK).en<=16)) n k hlt)
    have HG:=zh (show decide ((ms.getD k aK).en<=16)=true->∀ j,j<k+1->decide ((ms.getD j aK).en<=16)=true from fun h j hj=>by
     by_cases e:j=k
     .subst e;exact h
     .exact HJ.out j (by omega))
    generalize ms.getD k aK=m at *;obtain ⟨nm,ta,tn,tc,tz,ba,bn,bc,bl,da,dn,dc,dz,bss,ra,rn,rc,rz,ia,im,ic,ss,ea,en,ec,es⟩:=m;dsimp only at q0 q1 q2 q3 q4 q5 q6 q7 HZ HG;have HB1:=zh (hB.alloc hB.size (.cells (qM nm ta tn tc ba bn bc da dn dc bss ra rn rc ia im ic ea en ec) 138));by_cases d:16<en
    .have d':(16:Int)<(en:Int):=by omega
     go_wp2;go_ret;exact ⟨aA (by rw [HR.o];exact (HZ.o (xS (by omega))).symm),HB1.o⟩
    .have d':¬ (16:Int)<(en:Int):=by omega
     go_wp2
     go_roundw
     .exact ⟨k+1,by omega,by go_num,zh (HG.o (xR (by omega))),HB1.o⟩
     .simp [qf,intOf];omega
   .have HE:=zh (eW (fun i=>decide ((ms.getD i aK).en<=16)) n (fun j hj=>HJ.out j (by omega)));go_wp2;go_ret;exact ⟨aA (by rw [HR.o];exact HE.o.symm),hB⟩
def rsT (n:Nat)(ms:List Md)(s:ByteArray):Option (Nat×Nat):=
 if fD s=true/\tbf n ms=true then (fst? (cS ms) (dG s).data.toList n).bind fun i=>(fst? (fL (ms.getD i aK).es) (eE s).data.toList (ms.getD i aK).en).map fun k=>(i,k) else none
def rsv (n:Nat)(ms:List Md)(s:ByteArray):Value:=
 match rsT n ms s with
 | some (i,k)=>.tuple #[.agg #[qI i,qI ((ms.getD i aK).es.getD k zE).2.1,qI ((ms.getD i aK).es.getD k zE).2.2],.bool true]
 | none=>.tuple #[.agg (qT 0 0 0),.bool false]
theorem dT (h:rsT n ms s=none):rsv n ms s=.tuple #[.agg (qT 0 0 0),.bool false]:=by unfold rsv;rw [h]
theorem aBz {i k:Nat}(h:rsT n ms s=some (i,k)):rsv n ms s=.tuple #[.agg #[.int .i64 i,.int .i64 ((ms.getD i aK).es.getD k zE).2.1,.int .i64 ((ms.getD i aK).es.getD k zE).2.2],.bool true]:=by unfold rsv;rw [h]
theorem tM (f:Nat->List UInt8)(s:List UInt8)(i:Nat):∀ k,fst? f s k=some i->i<k
 | 0,h=>by cases h
 | k+1,h=>by
   rw [fE] at h;cases hf:fst? f s k with
   | some j=>rw [hf] at h;simp at h;subst h;have:=tM f s j k hf;omega
   | none=>rw [hf] at h;simp at h;omega
theorem aF6 {H:Type}{a b:Int}(h:(DataW.lit (.int .i64 a):DataW H)=.lit (.int .i64 b)):b=a:=by
 injection h with h
 injection h with _ h
 exact h.symm
theorem aAt (a:qO)(n cap:Nat)(ms:List Md)(s:ByteArray)(w:qw)(h:MS w a n cap ms)(hn:n<=1048576)(hs:s.size<=1048576)(hE:∀ i,i<n->ES w (ms.getD i aK).ea (ms.getD i aK).en (ms.getD i aK).ec (ms.getD i aK).es/\(ms.getD i aK).en<=1048576):
 qC 63 #[.slice a n cap,.string s] w (qB w (rsv n ms s)):=by
 obtain ⟨W,hW,hB0,kb⟩:=nwb w (qT 0 0 0) 58;have HW:=zh hW;clear hW;have HC:=zh (fun w=>lU s w hs);obtain ⟨V,hV⟩:=eqx (rsv n ms s);rw [<- hV];have HV:=zh hV;clear hV;have HTF:=zh (fun w h=>uQ a n cap ms w h)
 have fin:∀ (X:qw) (x y z:Int),qY w X->Blk X w.heap.size (qT 0 0 0) 58 ->
  Blk (((X.setCell (qR w.heap.size 0) (.int .i64 x)).setCell (qR w.heap.size 1) (.int .i64 y)).setCell (qR w.heap.size 2) (.int .i64 z)) w.heap.size (qT x y z) 58/\qY w (((X.setCell (qR w.heap.size 0) (.int .i64 x)).setCell (qR w.heap.size 1) (.int .i64 y)).setCell (qR w.heap.size 2) (.int .i64 z)):=fun X x y z hB k=>by
  refine ⟨?_,((hB.setCell (p:=(qR w.heap.size 0)) aN _).setCell (p:=(qR w.heap.size 1)) aN _).setCell (p:=(qR w.heap.size 2)) aN _⟩;have:=((k.set 0 (.int .i64 x)).set 1 (.int .i64 y)).set 2 (.int .i64 z);simpa using this
 have FIN:=zh fin;clear fin;cases hf:fD s
 .have hr:=zh (dT (n:=n) (ms:=ms) (s:=s) (by unfold rsT;rw [hf];simp));unfold aE1 at HC;rw [hf] at HC;go_enter func63,ntmps63
  go_wp2_with (rw [<- HW.o])
  refine (HC.o _).mono ?_;rintro e w1 ⟨rfl,hb1⟩;have k1:=kb.bw hb1;have hB1:=hB0.trans (hb1.mono hB0.size);obtain ⟨k2,hB2⟩:=FIN.o w1 0 0 0 hB1 k1;clear hb1 kb hB0;obtain ⟨q1,q2,q3,q4⟩:=k1.three;obtain ⟨s1,s2,s3,s4⟩:=k2.three;clear k1 k2;have HX:=zh hB2;clear hB2 hB1;go_wp2;exact bodyPost_ret (v:=.tuple #[.agg (qT 0 0 0),.bool false]) (by simp [results,results63,go_sem,s1,s2,s3]) rfl ⟨by rw [HV.o,hr.o],HX.o⟩
 .unfold aE1 at HC;rw [hf] at HC;go_enter func63,ntmps63
  go_wp2_with (rw [<- HW.o])
  refine (HC.o _).mono ?_;rintro e w1 ⟨rfl,hb1⟩;have k1:=kb.bw hb1;have hB1:=hB0.trans (hb1.mono hB0.size);clear hb1 kb hB0;have h1:=h.bw hB1;generalize htb:tbf n ms=tb at *;cases tb
  .have hr:=zh (dT (n:=n) (ms:=ms) (s:=s) (by unfold rsT;rw [htb];simp));clear htb;go_wp2_with fail
   refine (HTF.o _ h1).mono ?_;rintro e w2 ⟨rfl,hb2⟩;have k2:=k1.bw hb2;have hB2:=hB1.trans (hb2.mono hB1.size);obtain ⟨k3,hB3⟩:=FIN.o w2 0 0 0 hB2 k2;clear hb2 k1 hB1 h1;obtain ⟨q1,q2,q3,q4⟩:=k2.three;obtain ⟨s1,s2,s3,s4⟩:=k3.three;have HX:=zh hB3;clear hB3 hB2 k2 k3;go_wp2;exact bodyPost_ret (v:=.tuple #[.agg (qT 0 0 0),.bool false]) (by simp [results,results63,go_sem,s1,s2,s3]) rfl ⟨by rw [HV.o,hr.o],HX.o⟩
  .have HT:=zh (show rsT n ms s=(fst? (cS ms) (dG s).data.toList n).bind fun i=>(fst? (fL (ms.getD i aK).es) (eE s).data.toList (ms.getD i aK).en).map fun k=>(i,k) by unfold rsT;rw [hf,htb];simp);clear htb;have HKA:Zh (keyOf prog 9 (.string (dG s))=some (.string (dG s).data.toList)):=Go.WideMaps.keyOf_string_mk underlying9 (by have:=oQ s hs;unfold maxLen;omega);have HKB:Zh (keyOf prog 9 (.string (eE s))=some (.string (eE s).data.toList)):=Go.WideMaps.keyOf_string_mk underlying9 (by have:=oP s hs;unfold maxLen;omega);have HFM:=zh (fun w h=>nD a n cap ms w h hn);have HHA:=zh (nC (cS ms) (dG s).data.toList n);have HAA:=zh (aKu (cS ms) (dG s).data.toList (.lit (.int .i64 0)) n);have HIL:=zh (fun i=>tM (cS ms) (dG s).data.toList i n);go_wp2_with fail
   refine (HTF.o _ h1).mono ?_;rintro e w2 ⟨rfl,hb2⟩;have k2:=k1.bw hb2;have hB2:=hB1.trans (hb2.mono hB1.size);have h2:=h.bw hB2;clear hb2 k1 hB1 h1;go_wp2_with fail
   refine (HFM.o _ h2).mono ?_;rintro e w3 ⟨rfl,hown,hb3⟩;have k3:=k2.bw hb3;have hB3:=hB2.trans (hb3.mono hB2.size);have h3:=h.bw hB3;clear hb3 k2 hB2 h2;cases hi:fst? (cS ms) (dG s).data.toList n with
   | none=>
     have hr:=zh (dT (n:=n) (ms:=ms) (s:=s) (by rw [HT.o,hi];rfl));have hh:has (fd (cS ms) n) (.string (dG s).data.toList)=false:=by rw [<- HHA.o,hi];rfl
     obtain ⟨k4,hB4⟩:=FIN.o w3 0 0 0 hB3 k3;obtain ⟨q1,q2,q3,q4⟩:=k3.three;obtain ⟨s1,s2,s3,s4⟩:=k4.three;have HX:=zh hB4;clear hB4 hB3 k3 k4 h3 hi;go_wp2_with (at_lookup;refine wpList_lookup_own_ok_int _ rfl _ _ 176 rfl 9 3 .i64 vH underlying176 underlying3 (oV _) w2.heap.size n _ rfl hown _ _ rfl HKA.o ?_;intro c hat hwc;clear hat;rw [hh])
     exact bodyPost_ret (v:=.tuple #[.agg (qT 0 0 0),.bool false]) (by simp [results,results63,go_sem,s1,s2,s3]) rfl ⟨by rw [HV.o,hr.o],HX.o⟩
   | some i=>
     have hin:=HIL.o i hi;have hin':(i:Int)<(n:Int):=by omega
     have hh:has (fd (cS ms) n) (.string (dG s).data.toList)=true:=by rw [<- HHA.o,hi];rfl
     have HC2:=zh (fun (c:Int) (hat:(fd (cS ms) n).atKey (.string (dG s).data.toList) (.lit (.int .i64 0))=.lit (.int .i64 c))=>show c=(i:Int) from by rw [HAA.o,hi] at hat;exact aF6 hat);have HT2:=zh (show rsT n ms s=(fst? (fL (ms.getD i aK).es) (eE s).data.toList (ms.getD i aK).en).map (fun k=>(i,k)) by rw [HT.o,hi];rfl);have HRS:=zh (fun k (h:rsT n ms s=some (i,k))=>aBz h);obtain ⟨bb,off,rfl,y0,y1,y2,y3,y4,y5,y6,y7⟩:=h3.at i hin;obtain ⟨e1,e2⟩:=hE i hin;have e3:=e1.bw hB3;clear e1 hi HT HHA HAA HIL h3;generalize ms.getD i aK=m at *;obtain ⟨nm,ta,tn,tc,tz,ba,bn,bc,bl,da,dn,dc,dz,bss,ra,rn,rc,rz,ia,im,ic,ss,ea,en,ec,es⟩:=m;dsimp only at y0 y1 y2 y3 y4 y5 y6 y7 e2 e3 HT2 HRS;have HFE:=zh (fun w h=>nE ea en ec es w h e2);go_wp2_with (at_lookup;refine wpList_lookup_own_ok_int _ rfl _ _ 176 rfl 9 3 .i64 vH underlying176 underlying3 (oV _) w2.heap.size n _ rfl hown _ _ rfl HKA.o ?_;intro c hat hwc;have hc:=HC2.o c hat;clear hat hwc;subst hc;rw [hh])
     refine (HFE.o _ e3).mono ?_;rintro e w4 ⟨rfl,hown4,hb4⟩;have k4:=k3.bw hb4;have hB4:=hB3.trans (hb4.mono hB3.size);have e4:=e3.bw hb4;have y7':w4.cell? (qR bb (off+i*8+7))=some (.slice ea en ec):=(hb4.cell (xD w3 _ y7)).trans y7;clear hb4 hB3 k3 e3 hown y0 y1 y2 y3 y4 y5 y6 y7 HC2 hh;cases hk:fst? (fL es) (eE s).data.toList en with
     | none=>
       have hr:=zh (dT (n:=n) (ms:=ms) (s:=s) (by rw [HT2.o,hk];rfl));have hh:has (fd (fL es) en) (.string (eE s).data.toList)=false:=by rw [<- nC,hk];rfl
       obtain ⟨k5,hB5⟩:=FIN.o w4 0 0 0 hB4 k4;obtain ⟨q1,q2,q3,q4⟩:=k4.three;obtain ⟨s1,s2,s3,s4⟩:=k5.three;have HX:=zh hB5;clear hB4 hB5 k4 k5 hk;go_wp2_with (at_lookup;refine wpList_lookup_own_ok_int _ rfl _ _ 176 rfl 9 3 .i64 vH underlying176 underlying3 (oV _) w3.heap.size en _ rfl hown4 _ _ rfl HKB.o ?_;intro c hat hwc;clear hat;rw [hh])
       exact bodyPost_ret (v:=.tuple #[.agg (qT 0 0 0),.bool false]) (by simp [results,results63,go_sem,s1,s2,s3]) rfl ⟨by rw [HV.o,hr.o],HX.o⟩
     | some k=>
       have hkn:=tM (fL es) (eE s).data.toList k en hk;have hkn':(k:Int)<(en:Int):=by omega
       have hr:=zh (HRS.o k (by rw [HT2.o,hk];rfl));have hh:has (fd (fL es) en) (.string (eE s).data.toList)=true:=by rw [<- nC,hk];rfl
       have HC2:=zh (fun (c:Int) (hat:(fd (fL es) en).atKey (.string (eE s).data.toList) (.lit (.int .i64 0))=.lit (.int .i64 c))=>show c=(k:Int) from by rw [aKu,hk] at hat;exact aF6 hat);obtain ⟨eb,eo,rfl⟩:=e4.addr (by omega);obtain ⟨x0,x1,x2⟩:=e4.at k hkn;generalize es.getD k zE=E at *;obtain ⟨xn,xb,xa⟩:=E;dsimp only at x0 x1 x2 hr;obtain ⟨k5',hB5'⟩:=FIN.o w4 i xb xa hB4 k4;have k5:=k5'.alloc (.cells #[.string xn,.int .i64 xb,.int .i64 xa] 163);have hB5:=hB5'.alloc hB5'.size (.cells #[.string xn,.int .i64 xb,.int .i64 xa] 163);clear k5' hB5';have kl:=k4.lt;obtain ⟨q1,q2,q3,q4⟩:=k4.three;obtain ⟨s1,s2,s3,s4⟩:=k5.three;have HX:=zh hB5;clear hB4 hB5 k4 k5 hk e4;go_wp2_with (at_lookup;refine wpList_lookup_own_ok_int _ rfl _ _ 176 rfl 9 3 .i64 vH underlying176 underlying3 (oV _) w3.heap.size en _ rfl hown4 _ _ rfl HKB.o ?_;intro c hat hwc;have hc:=HC2.o c hat;clear hat hwc;subst hc;rw [hh])
       exact bodyPost_ret (v:=.tuple #[.agg (qT i xb xa),.bool true]) (by simp [results,results63,go_sem,s1,s2,s3]) rfl ⟨by rw [HV.o,hr.o],HX.o⟩
