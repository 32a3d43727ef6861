import Derived.Test.YtncccmeomcaabaaGreatP08
import Derived.Test.YtncccmeomcaabaaGreatP09
set_option maxHeartbeats 1000000
namespace Go.Proofs.YtncccmeomcaabaaGreat
open Go.RowKit Classical
open Go.Proofs.Tryz
set_option linter.all false
set_option maxRecDepth 100000
variable {L:Lay}{S:Nat->Prop}{a a0 a2 a5:qO}{base c c0 c2 c5 cap n:Nat}{cs:Array Value}{m m':Md}{ms ms':List Md}{ts:List TB}{xs:List PB}
theorem aJr (gs:List Nat)(bl:List Bk):(reb gs bl).map (fun B=>B.2.2.2)=bl.map (fun B=>B.2.2.2):=by
 apply List.ext_getElem
 .simp [mW]
 .intro i h1 h2;simp [reb] at h1 ⊢;simp [h1]
theorem aNi {W:qw}(h:eO c m m' W):m'.pm=m.pm:=by
 obtain ⟨g1,g2,g3,g5,g6,g7,gs,rfl,_⟩:=h;simp only [Md.pm,aJr]
theorem rZ {W:qw}(h:RowM W c n ms ms')(hl:ms'.length=n)(hl0:ms.length=n):aD ms'=aD ms:=by
 apply List.ext_getElem
 .simp [aD,hl,hl0]
 .intro i h1 h2;simp only [aD,xH] at h1 h2;have e:=aNi (h.2.2 i (by omega)).2;simpa [aD,xB,h1,h2] using e
theorem yU {W:qw}(h:eO c m m' W)(hb:m.bl.length=m.bn):m'.size=m.size:=by
 obtain ⟨g1,g2,g3,g5,g6,g7,gs,rfl,_⟩:=h;exact aJq _ _ _ _ _ _ _ _ _ _ _ hb
theorem aJn {W w:qw}(h:RowM W c n ms ms')(hl:ms'.length=n)(hm:MS w a n cap ms)(hs:∀ i,i<n->(ms.getD i aK).size<=1048576):MSD W (qP c) n n ms':=
 ⟨h.ms hl hm,fun i hi=>aKj (aGx (hm.2.2.2.1 i hi) (h.2.2 i (by omega)).2) (by
  have e:=yU (h.2.2 i (by omega)).2 (hm.2.2.2.1 i hi).b.1;have:=hs i hi;unfold Md.size at e this;rw [e]
  exact this)⟩
def Sm (W:qw)(c j:Nat):Prop:=c<j/\j<W.heap.size/\¬ ∃ cs,Blk W j cs 25
def bnF (m:Md)(j:Nat):Rw3:=((m.bl.getD j zB).1,(m.bl.getD j zB).2.1,(m.bl.getD j zB).2.2.1)
theorem SlB.congr {w:qw}{f f':Nat->Rw3}(h:SlB S w a n f)(e:∀ i,i<n->f' i=f i):SlB S w a n f':=
 ⟨fun hn=>by obtain ⟨g,o,cs,t,ha,hs,hb,hl⟩:=h.head hn;exact ⟨g,o,cs,t,ha,hs,hb,fun i hi=>by rw [e i hi];exact hl i hi⟩,fun i hi=>by rw [e i hi];exact h.rows i hi⟩
theorem rQ {f f':Nat->Rw3}:∀ n,(∀ i,i<n->f' i=f i)->bJ f' n=bJ f n
 | 0,_=>rfl
 | n+1,e=>by show bJ f' n+(f' n).2.1=bJ f n+(f n).2.1;rw [rQ n (fun i hi=>e i (by omega)),e n (by omega)]
theorem wP {W:qw}{j:Nat}{t:TypeId}(h1:c<j)(hb:Blk W j cs t)(hne:t≠25):Sm W c j:=⟨h1,hb.lt,fun ⟨c2,k2⟩=>hne (aI hb k2)⟩
theorem uL {w W:qw}(hm:m.mt w)(h:eO c m m' W):Rws (Sm W c) W c m' (bnF m')/\bJ (bnF m') m'.bn=upS (fun j=>(m.bl.getD j zB).2.1) m.bn:=by
 obtain ⟨g1,g2,g3,g5,g6,g7,gs,rfl,l1,l2,l3,l4,l5,l6,hg,r1,r2,r3,r5,r6,r7⟩:=h;have hbl:m.bl.length=m.bn:=hm.b.1;have s1:Sm W c g1:=wP (by omega) (show Blk W g1 _ _ from r1) (by decide);have s3:Sm W c g3:=wP (by omega) (show Blk W g3 _ _ from r3) (by decide);have s5:Sm W c g5:=wP (by omega) (show Blk W g5 _ _ from r5) (by decide);have s6:Sm W c g6:=wP (by omega) (show Blk W g6 _ _ from r6) (by decide);have s7:Sm W c g7:=by obtain ⟨⟨cx,hx,_⟩,_⟩:=r7;exact wP (by omega) hx (by decide)
 have s2:¬ Sm W c g2:=fun e=>by obtain ⟨⟨cur,h2,_⟩,_⟩:=r2;exact e.2.2 ⟨cur,h2⟩
 have sb:∀ i,i<m.bn->Sm W c (gs.getD i 0):=fun i hi=>by
  obtain ⟨q1,q2⟩:=r2.2.1 i (by omega);exact wP (by omega) (show Blk W (gs.getD i 0) _ _ from q1) (by decide)
 have e:∀ i,i<m.bn->bnF ⟨m.nm,some (qR g1 0),m.tn,m.tn,m.tz,some (qR g2 0),m.bn,m.bn,reb gs m.bl,some (qR g3 0),m.dn,m.dn,m.dz,m.bss,some (qR g5 0),m.rn,m.rn,m.rz,some (qR g6 0),m.im,m.im,m.ss,some (qR g7 0),m.en,m.en,m.es⟩ i=aDr gs m.bl i:=fun i hi=>by
  unfold bnF;rw [gY _ _ _];rfl
 obtain ⟨t1,t2,t3,t5,t6,t7⟩:=aPb hm hg r1 r2 r3 r5 r6 r7 s1 s2 sb s3 s5 s6 s7;refine ⟨⟨t1,t2.congr e,t3,t5,t6,t7,fun g o hh=>?_⟩,?_⟩
 .simp at hh;omega
 .rw [rQ _ e,wO]
theorem aCb {W w:qw}(h:RowM W c n ms ms')(hl:ms'.length=n)(hm:MS w a n cap ms):Mrs (Sm W c) W c n ms' (fun i=>bnF (ms'.getD i aK)):=by
 obtain ⟨⟨cur,hb,hsz⟩,_,hr⟩:=h;refine ⟨fun e=>by have:=e.1;omega,⟨cur,hb,fun i hi=>?_⟩,fun i hi=>(uL (hm.2.2.2.1 i hi) (hr i (by omega)).2).1⟩;obtain ⟨h0,h1,h2,h3,h4,h5,h6,h7⟩:=(hr i (by omega)).1;exact ⟨⟨_,(hb.cell _).symm.trans h0⟩,(hb.cell _).symm.trans h1,(hb.cell _).symm.trans h2,(hb.cell _).symm.trans h3,⟨_,(hb.cell _).symm.trans h4⟩,(hb.cell _).symm.trans h5,(hb.cell _).symm.trans h6,(hb.cell _).symm.trans h7⟩
theorem aJo {W w:qw}(h:RowM W c n ms ms')(hl:ms'.length=n)(hm:MS w a n cap ms)(hz:n+upS (fun j=>(ms.getD j aK).size) n<=1048576):
 upS (gH ms' (fun i=>bnF (ms'.getD i aK))) n<=3145728/\(∀ i,i<n->(ms'.getD i aK).bn<=1048576)/\(∀ i,i<n->gH ms' (fun i=>bnF (ms'.getD i aK)) i<=4194304/\(ms'.getD i aK).tn<=1048576/\(ms'.getD i aK).dn<=1048576/\(ms'.getD i aK).rn<=1048576/\(ms'.getD i aK).im<=1048576/\(ms'.getD i aK).en<=1048576/\bJ (bnF (ms'.getD i aK)) (ms'.getD i aK).bn<=1048576):=by
 have key:∀ i,i<n->gH ms' (fun i=>bnF (ms'.getD i aK)) i<=2+3*(ms.getD i aK).size/\(ms'.getD i aK).bn<=(ms.getD i aK).size/\(ms'.getD i aK).tn<=(ms.getD i aK).size/\(ms'.getD i aK).dn<=(ms.getD i aK).size/\(ms'.getD i aK).rn<=(ms.getD i aK).size/\(ms'.getD i aK).im<=(ms.getD i aK).size/\(ms'.getD i aK).en<=(ms.getD i aK).size/\bJ (bnF (ms'.getD i aK)) (ms'.getD i aK).bn<=(ms.getD i aK).size:=fun i hi=>by
  have hc:=(h.2.2 i (by omega)).2;have e1:=(uL (hm.2.2.2.1 i hi) hc).2
  have e2:(ms'.getD i aK).tn=(ms.getD i aK).tn/\(ms'.getD i aK).bn=(ms.getD i aK).bn/\(ms'.getD i aK).dn=(ms.getD i aK).dn/\(ms'.getD i aK).rn=(ms.getD i aK).rn/\(ms'.getD i aK).im=(ms.getD i aK).im/\(ms'.getD i aK).en=(ms.getD i aK).en:=by
   obtain ⟨g1,g2,g3,g5,g6,g7,gs,e,_⟩:=hc;rw [e];exact ⟨rfl,rfl,rfl,rfl,rfl,rfl⟩
  obtain ⟨f1,f2,f3,f4,f5,f6⟩:=e2;have e3:(ms.getD i aK).size=(ms.getD i aK).nm.size+(ms.getD i aK).tn+((ms.getD i aK).bn+upS (fun j=>((ms.getD i aK).bl.getD j zB).2.1) (ms.getD i aK).bn)+(ms.getD i aK).dn+(ms.getD i aK).rn+((ms.getD i aK).im+upS (fun j=>((ms.getD i aK).ss.getD j zS).size) (ms.getD i aK).im)+((ms.getD i aK).en+upS (fun j=>((ms.getD i aK).es.getD j zE).1.size) (ms.getD i aK).en):=rfl;unfold gH;rw [e1,f1,f2,f3,f4,f5,f6,e3];omega
 have hle:∀ i,i<n->(ms.getD i aK).size<=1048576:=fun i hi=>by have:=zC (fun j=>(ms.getD j aK).size) n i hi;omega
 refine ⟨?_,fun i hi=>by have:=key i hi;have:=hle i hi;omega,fun i hi=>by have:=key i hi;have:=hle i hi;omega⟩
 have hsum:∀ q,q<=n->upS (gH ms' (fun i=>bnF (ms'.getD i aK))) q<=2*q+3*upS (fun j=>(ms.getD j aK).size) q:=by
  intro q
  induction q with
  | zero=>intro _;simp [upS]
  | succ q ih=>
    intro hq;have h1:=ih (by omega);have h2:=(key q (by omega)).1;show upS _ q+gH ms' (fun i=>bnF (ms'.getD i aK)) q<=2*(q+1)+3*(upS _ q+(ms.getD q aK).size);omega
 have:=hsum n aN;omega
theorem LayO.kept {W W':qw}(h:LayO W base L a0 c0 xs a2 c2 a5 c5 ts)(t:Turn S W W')(hs:∀ j,base<=j->j<W.heap.size->¬ S j):LayO W' base L a0 c0 xs a2 c2 a5 c5 ts where
 p:=h.p.kept t (fun k hk=>hs k (h.p.lt.1 k hk).1 (h.p.lt.1 k hk).2) (fun x hx k hk=>hs k (h.p.lt.2 x hx k hk).1 (h.p.lt.2 x hx k hk).2)
 ps:=h.ps
 s:=h.s.kept t (fun k hk=>hs k (h.s.lt k hk).1 (h.s.lt k hk).2)
 t:=h.t.kept t (fun k hk=>hs k (h.t.lt.1 k hk).1 (h.t.lt.1 k hk).2) (fun x hx k hk=>hs k (h.t.lt.2 x hx k hk).1 (h.t.lt.2 x hx k hk).2)
 tt:=h.tt
 sp:=h.sp
theorem LayO.below' {W W':qw}(h:LayO W base L a0 c0 xs a2 c2 a5 c5 ts)(hb:qY W W'):LayO W' base L a0 c0 xs a2 c2 a5 c5 ts:=h.kept (S:=fun _=>False) (aJ hb) (fun _ _ _ s=>s)
def Zb (zc:Array Value)(t:TypeId)(W0 X:qw)(o:Option Nat):Prop:=qY W0 X/\∀ g,o=some g->W0.heap.size<=g/\Blk X g zc t
section
variable {zc:Array Value}{t:TypeId}{W0 X Y:qw}{o:Option Nat}
theorem aOh (zc:Array Value)(t:TypeId)(W0:qw):Zb zc t W0 W0 none:=⟨brf,fun g e=>by cases e⟩
theorem Zb.bw (h:Zb zc t W0 X o)(hb:qY X Y):Zb zc t W0 Y o:=⟨h.1.trans (hb.mono h.1.size),fun g e=>⟨(h.2 g e).1,(h.2 g e).2.bw hb⟩⟩
theorem Zb.drew (h:Zb zc t W0 X o):Zb zc t W0 X.drew o:=⟨h.1.drew,fun g e=>⟨(h.2 g e).1,(h.2 g e).2⟩⟩
theorem Zb.box (h:Zb zc t W0 X none):Zb zc t W0 (X.alloc (.cells zc t)) (some X.heap.size):=⟨h.1.alloc h.1.size _,fun g e=>by cases e;exact ⟨h.1.size,Blk.new X zc t⟩⟩
end
section
variable {zc:Array Value}{t:TypeId}{n g:Nat}{ms m:List Md}{W0 X Y:qw}{o:Option Nat}
end
section
variable {base:Nat}{L:Lay}{W0 X:qw}{gb:Nat}{a0:qO}{c0:Nat}{xs:List PB}{a2:qO}{c2:Nat}{a5:qO}{c5:Nat}{ts:List TB}
end
section
variable {cf:Array Value}{tc:TypeId}{base:Nat}{L:Lay}{w W5 W W':qw}{gb:Nat}{a0:qO}{c0:Nat}{xs:List PB}{a2:qO}{c2:Nat}{a5:qO}{c5:Nat}{ts:List TB}
end
theorem tY {α:Type}(f:α -> List Value)(sz:Nat)(hf:∀ x,(f x).length=sz):∀ xs:List α,(xs.flatMap f).length=xs.length*sz
 | []=>by simp
 | x::xs=>by simp only [xT,xI,List.length_cons,tY f sz hf xs,hf x];rw [Nat.add_mul];omega
theorem tZ {α:Type}(f:α -> List Value)(sz:Nat)(hf:∀ x,(f x).length=sz)(z:α):∀ (xs:List α) (i j:Nat),i<xs.length->j<sz->(xs.flatMap f)[i*sz+j]?=(f (xs.getD i z))[j]?
 | [],i,j,h,_=>by simp at h
 | x::xs,0,j,h,hj=>by simp [List.getElem?_append_left (show j<(f x).length by rw [hf];exact hj)]
 | x::xs,i+1,j,h,hj=>by
   have ih:=tZ f sz hf z xs i j (by simpa using h) hj;have e:(i+1)*sz+j=(f x).length+(i*sz+j):=by rw [hf,Nat.add_mul];omega
   rw [xT,e,List.getElem?_append_right (by omega),Nat.add_sub_cancel_left,ih];simp
theorem aHg {α:Type}(f:α -> List Value)(sz:Nat)(hf:∀ x,(f x).length=sz)(z:α){xs:List α}(h:cs.size=xs.length*sz)(hs:0<sz)(hc:∀ i,i<xs.length->∀ j,j<sz->cs[i*sz+j]?=(f (xs.getD i z))[j]?):cs.toList.take (xs.length*sz)=xs.flatMap f:=by
 apply List.ext_getElem?;intro k;by_cases hk:k<xs.length*sz
 .have e:k=k/sz*sz+k%sz:=by rw [Nat.mul_comm];exact (Nat.div_add_mod k sz).symm
  have h1:k/sz<xs.length:=by rw [Nat.div_lt_iff_lt_mul hs];exact hk
  have h2:k%sz<sz:=Nat.mod_lt _ hs;rw [List.getElem?_take,if_pos hk,Array.getElem?_toList];rw [e,hc _ h1 _ h2,tZ f sz hf z xs _ _ h1 h2]
 .rw [xO (by simp;omega),xO (by rw [tY f sz hf];omega)]
def RowF {α:Type}(t:TypeId)(sz:Nat)(f:α->List Value)(w:qw)(g n:Nat)(F:Nat->α):Prop:=
 ∃ cs,Blk w g cs t/\cs.size=n*sz/\∀ i,i<n->∀ j,j<sz->cs[i*sz+j]?=(f (F i))[j]?
section
variable {α:Type}{t:TypeId}{sz:Nat}{f:α->List Value}{w w':qw}{g n:Nat}{F:Nat->α}
theorem RowF.bw (h:RowF t sz f w g n F)(hb:qY w w'):RowF t sz f w' g n F:=by
 obtain ⟨cs,h1,h2,h3⟩:=h;exact ⟨cs,h1.bw hb,h2,h3⟩
theorem RowF.blk (h:RowF t sz f w g n F):∃ cs,Blk w g cs t:=by obtain ⟨cs,h1,_⟩:=h;exact ⟨cs,h1⟩
theorem RowF.cell (h:RowF t sz f w g n F)(hf:∀ x,(f x).length=sz)(i j:Nat)(hi:i<n)(hj:j<sz)(v:Value)(hv:(f (F i))[j]?=some v):w.cell? (qR g (i*sz+j))=some v:=by
 obtain ⟨cs,h1,h2,h3⟩:=h;rw [h1.cell,h3 i hi j hj,hv]
theorem RowF.og (h:RowF t sz f w g n F)(hf:∀ x,(f x).length=sz)(hs:0<sz)(hg:base<=g)(hn:n<=maxLen){xs:List α}(hl:xs.length=n)(z:α)(he:∀ i,i<n->F i=xs.getD i z):OG t sz f w base (qS (qP g) n n) xs:=by
 obtain ⟨cs,h1,h2,h3⟩:=h;subst hl;refine ⟨tY f sz hf xs,.inr ⟨g,xs.length,cs,rfl,hg,h1,aN,hn,h2,aHg f sz hf z h2 hs (fun i hi j hj=>?_)⟩⟩;rw [h3 i hi j hj,he i hi]
theorem wT (z0:α)(v:Value)(hv:v.cells.toList=f z0)(hs:sz=v.cells.size)(h:w.ownsRow base t sz (qS (qP g) n n) n (madeCells v.cells (n*sz)).toList):RowF t sz f w g n (fun _=>z0):=by
 obtain ⟨hl,h|⟨g',cap,cur,hv',hb,hh,h1,h2,h3,h4⟩⟩:=h
 .simp at h
 .simp at hv';obtain ⟨rfl,rfl⟩:=hv'
  have e:cur.toList=(madeCells v.cells (n*sz)).toList:=by
   rw [<- h4,xG (by simp [h3])]
  have e2:cur=madeCells v.cells (n*sz):=Array.toList_inj.1 e;refine ⟨cur,hh,h3,fun i hi j hj=>?_⟩
  have hlt:i*sz+j<n*sz:=by
   have:(i+1)*sz<=n*sz:=Nat.mul_le_mul_right _ (by omega);rw [Nat.add_mul] at this;omega
  have hm:(i*sz+j)%v.cells.size=j:=by rw [<- hs,Nat.mul_comm,Nat.mul_add_mod];exact Nat.mod_eq_of_lt hj
  rw [e2,<- hv];simp [madeCells,hlt,hm,show j<v.cells.size by omega]
theorem aG2 {i:Nat}{v:Value}(h:i<cs.size):(cs.setIfInBounds i v)[i]?=some v:=by simp [h]
theorem RowF.set4 (h:RowF t 4 f w g n F)(m:Nat)(hm:m<n)(x:α)(a b c d:Value)(hx:f x=[a,b,c,d]):RowF t 4 f ((((w.setCell (qR g (m*4)) a).setCell (qR g (m*4+1)) b).setCell (qR g (m*4+2)) c).setCell (qR g (m*4+3)) d) g n (fun i=>if i=m then x else F i):=by
 obtain ⟨cs,h1,h2,h3⟩:=h;refine ⟨_,(((h1.set (m*4) a).set (m*4+1) b).set (m*4+2) c).set (m*4+3) d,by simp [h2],fun i hi j hj=>?_⟩;by_cases e:i=m
 .subst e;simp only [if_true,hx]
  match j,hj with
  | 0,_=>exact cL (cL (cL (aG2 (by rw [h2];omega))))
  | 1,_=>exact cL (cL (aG2 (by simp [h2];omega)))
  | 2,_=>exact cL (aG2 (by simp [h2];omega))
  | 3,_=>exact aG2 (by simp [h2];omega)
 .simp only [e,if_false];rw [Array.getElem?_setIfInBounds_ne (by omega),Array.getElem?_setIfInBounds_ne (by omega),Array.getElem?_setIfInBounds_ne (by omega),Array.getElem?_setIfInBounds_ne (by omega)];exact h3 i hi j hj
end
section
variable {α β:Type}{th:TypeId}{hs:Nat}{hc:α->List Value}{tr:TypeId}{rs:Nat}{rc:β->List Value}{sv:α->Value}{ct:α->List β}{w w':qw}{base g n:Nat}{f:Nat->α}
end
abbrev SlT:=Bool×Int×Int×Int
abbrev FrT:=Int×Int×Int×Int
def zSl:SlT:=(false,0,0,0)
def zFr:FrT:=(0,0,0,0)
def bS (x:SlT):List Value:=[.bool x.1,qI x.2.1,qI x.2.2.1,qI x.2.2.2]
def cP (x:FrT):List Value:=[qI x.1,qI x.2.1,qI x.2.2.1,qI x.2.2.2]
theorem bM:∀ x:SlT,(bS x).length=4:=fun x=>rfl
theorem dI:∀ x:FrT,(cP x).length=4:=fun x=>rfl
def QS {α:Type}(f:α->List Value)(z:α)(w:qw)(a:qO)(n cap:Nat)(xs:List α):Prop:=
 xs.length=n/\n<=maxLen/\(n≠0->∃ b off,a=some (qR b off)/\∀ i,i<n->∀ j v,(f (xs.getD i z))[j]?=some v->w.cell? (qR b (off+i*4+j))=some v)/\n<=cap
section
variable {α:Type}{f:α->List Value}{z:α}{w w':qw}{a:qO}{n cap:Nat}{xs:List α}
theorem QS.bw (h:QS f z w a n cap xs)(hb:qY w w'):QS f z w' a n cap xs:=by
 obtain ⟨h1,h2,h3,h4⟩:=h;refine ⟨h1,h2,fun hn=>?_,h4⟩;obtain ⟨b,off,e,hc⟩:=h3 hn;exact ⟨b,off,e,fun i hi j v hv=>aB hb (hc i hi j v hv)⟩
theorem QS.at (h:QS f z w a n cap xs)(i:Nat)(hi:i<n)(v0 v1 v2 v3:Value)(hf:f (xs.getD i z)=[v0,v1,v2,v3]):∃ b off,a=some (qR b off)/\w.cell? (qR b (off+i*4))=some v0/\w.cell? (qR b (off+i*4+1))=some v1/\w.cell? (qR b (off+i*4+2))=some v2/\w.cell? (qR b (off+i*4+3))=some v3:=by
 obtain ⟨b,off,e,hc⟩:=h.2.2.1 (by omega);have k:=hc i hi;rw [hf] at k;exact ⟨b,off,e,k 0 _ rfl,k 1 _ rfl,k 2 _ rfl,k 3 _ rfl⟩
theorem sS {t:TypeId}(hf:∀ x,(f x).length=4)(h:OG t 4 f w base (qS a n cap) xs):QS f z w a n cap xs:=by
 obtain ⟨h1,h2,h3,h4⟩:=aT h;refine ⟨h1,h2,fun hn=>?_,h3⟩;obtain ⟨g,rfl,hc⟩:=h4 hn;refine ⟨g,0,rfl,fun i hi j v hv=>?_⟩
 have hj:j<4:=by
  rcases Nat.lt_or_ge j 4 with h|h
  .exact h
  .rw [xO (by rw [hf];exact h)] at hv;cases hv
 rw [Nat.zero_add];exact hc _ _ (by rw [tZ f 4 hf z xs i j (by omega) hj];exact hv)
end
theorem aE4:(prog.info? 142).map (fun i=>(i.zero,i.size,i.bytes))=some (some (.agg #[.bool false,qI 0,qI 0,qI 0]),4,32):=by kernel_rfl
theorem aE5:(prog.info? 135).map (fun i=>(i.zero,i.size,i.bytes))=some (some (.agg (qW 0 0 0 0)),4,32):=by kernel_rfl
theorem aB1 (a:qO)(n cap:Nat)(l:Int)(w:qw)(h0:0<=l)(h1:l<=1048576)(hn:n<=maxLen):
 qC 27 #[qS a n cap,qI l] w fun e w'=>e=.returned (qI (szR l n))/\w=w':=by
 unfold maxLen at hn;unfold szR;by_cases h:l<n
 .go_enter func27,ntmps27
  go_wp2;go_ret;exact ⟨rfl,rfl⟩
 .go_enter func27,ntmps27
  go_wp2;go_ret;exact ⟨rfl,rfl⟩
theorem zN (a:qO)(n cap:Nat)(l:Int)(w:qw)(h0:0<=l)(h1:l<=1048576)(hn:n<=maxLen):
 qC 28 #[qS a n cap,qI l] w fun e w'=>e=.returned (qI (szR l n))/\w=w':=by
 unfold maxLen at hn;unfold szR;by_cases h:l<n
 .go_enter func28,ntmps28
  go_wp2;go_ret;exact ⟨rfl,rfl⟩
 .go_enter func28,ntmps28
  go_wp2;go_ret;exact ⟨rfl,rfl⟩
