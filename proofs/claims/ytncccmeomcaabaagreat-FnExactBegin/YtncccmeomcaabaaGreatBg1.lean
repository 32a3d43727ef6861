import Derived.Deep.RegionHeld3
import Derived.Test.YtncccmeomcaabaaGreatC15
set_option linter.all false
namespace Go.Proofs.YtncccmeomcaabaaGreat
open Go.RowKit Classical
set_option maxRecDepth 100000
theorem Cv.st {C:Cn}{L:Lay}(h:Cv C L):(65536<=L.stack/\L.stack<=dB L/\dB L<=100000)/\(dB L-65536).toNat<=C.rz.length/\∀ i,i<C.lz.length->dB L<=L.slots.getD i 0:=by
 have e:L=lay C.ps C.cs C.cw C.ck:=by rw [h.e];unfold lkL;rw [if_pos h.k]
 obtain ⟨h1,_,_,h4,_,_,_,_,h9⟩:=eQ.1 h.k;unfold cfo at h1;simp at h1;have a1:=bQ h4 C.ps.length aN;have hR:=(aQ (x:=4*C.cw)).1;have hl:=h.cf.2.2.2.1;have hr:=h.r;rw [<- e] at h9;have e1:L.stack=65536+Ra C.ps C.ps.length:=by rw [e];rfl
 have e2:∀ i,i<L.slots.length->L.slots.getD i 0=65536+Ra C.ps C.ps.length+C.ck+(i:Int)*rnd (4*C.cw):=fun i hi=>by
  rw [e] at hi ⊢;rw [show (lay C.ps C.cs C.cw C.ck).slots.length=C.cs.toNat by simp [lay]] at hi;simp [lay,xB,hi,slt]
 have e3:L.ram=Ra C.ps C.ps.length+C.ck+(C.cs.toNat:Int)*rnd (4*C.cw):=by rw [e];rfl
 have hm:0<=(C.cs.toNat:Int)*rnd (4*C.cw):=Int.mul_nonneg (by omega) (by omega)
 have e4:dB L=65536+Ra C.ps C.ps.length+C.ck:=by
  unfold dB;by_cases c:L.slots=[]
  .rw [if_pos c];have hs:C.cs.toNat=0:=by have:=congrArg List.length c;rw [e] at this;simpa [lay] using this
   rw [hs] at e3;simp at e3;unfold wrap64;omega
  .rw [if_neg c,e2 0 (List.length_pos_iff.2 c)];simp
 refine ⟨by omega,by omega,fun i hi=>?_⟩;rw [e4,e2 i (by omega)];have:=Int.mul_nonneg (show (0:Int)<=(i:Int) by omega) (show 0<=rnd (4*C.cw) by omega);omega
def rgF (az:qi):Nat->List Int
 | 0=>List.replicate 8 0
 | k+1=>(rgF az k).set k (az.getD k 0%4294967296)
theorem rgF_len (az:qi):∀ k,(rgF az k).length=8
 | 0=>rfl
 | k+1=>by unfold rgF;rw [List.length_set,rgF_len az k]
def fgA (C:Cn)(L:Lay):Cn:={ C with hz:=[],oz:=[],rz:=ovr C.rz (L.stack-65536).toNat (List.replicate (dB L-L.stack).toNat 0) }
def fgC (C:Cn)(L:Lay)(az:qi):Cn:={ fgA C L with kz:=(rgF az az.length).set 6 (dB L) }
theorem ovr_drop (zs:qi)(f:Nat)(ds:qi)(p:Nat)(h:f+ds.length<=zs.length)(hp:f+ds.length<=p):(ovr zs f ds).drop p=zs.drop p:=by
 apply List.ext_getElem?;intro i;rw [List.getElem?_drop,List.getElem?_drop,aGr _ _ _ _ h,if_neg (by omega)]
theorem fgA_cv {C:Cn}{L:Lay}(h:Cv C L)(k:qi)(hk:k.length=8):Cv { fgA C L with kz:=k } L:=by
 obtain ⟨⟨s0,s1,s2⟩,s3,s4⟩:=h.st;have hf:(L.stack-65536).toNat+(List.replicate (dB L-L.stack).toNat (0:Int)).length<=C.rz.length:=by rw [List.length_replicate];omega
 have hl:=lR C.rz _ _ hf;refine ⟨h.k,h.e,?_,?_,hk,⟨h.s.1,fun i hi=>⟨(h.s.2 i hi).1,(h.s.2 i hi).2.1,fun u=>?_⟩⟩,h.n,h.t⟩
 .have:=of_decide_eq_true h.b;exact decide_eq_true ⟨this.1,by show (ovr C.rz (L.stack-65536).toNat (List.replicate (dB L-L.stack).toNat 0)).length<=_;rw [hl];exact this.2.1,by show 0<=_;omega⟩
 .show ((ovr C.rz (L.stack-65536).toNat (List.replicate (dB L-L.stack).toNat 0)).length:Int)=_;rw [hl];exact h.r
 .have:=s4 i hi;refine Eq.trans ?_ ((h.s.2 i hi).2.2 u);show ((ovr C.rz (L.stack-65536).toNat (List.replicate (dB L-L.stack).toNat 0)).drop _).take _=(C.rz.drop _).take _;rw [ovr_drop _ _ _ _ hf (by rw [List.length_replicate];omega)];rfl
theorem fgC_cv {C:Cn}{L:Lay}(h:Cv C L)(az:qi):Cv (fgC C L az) L:=fgA_cv h _ (by rw [List.length_set,rgF_len])
theorem clear_run {W:qw}{base g n cap f:Nat}{zs:qi}(ho:OB W base (qS (qP g) n cap) zs)(k:Nat)(hfit:f+k<=n)(h0:k≠0):
 ∃ w',(∀ (ty:TypeId) (c:Nat),(Builtin.clear_ #[28] ty #[qS (some (qR g f)) k c]).run Tryz.prog W=.ok (.tuple #[]) w')/\OB w' base (qS (qP g) n cap) (ovr zs f (List.replicate k 0))/\Turn (fun j=>j=g) W w':=by
 obtain ⟨⟨hl,⟨e0,_⟩|⟨g',cap',cur,hv,hg,hh,h1,h2,h3,h4⟩⟩,hr⟩:=ho
 .simp at e0
 .simp at hv;obtain ⟨rfl,rfl,rfl⟩:=hv;obtain ⟨k,rfl⟩:∃ j,k=j+1:=⟨k-1,by omega⟩
  have hz:(Builtin.zeroCells (Value.cells (.int .u8 0)) (k+1)).toList=(List.replicate (k+1) (0:Int)).map (Value.int .u8):=by
   apply List.ext_getElem
   .simp [Builtin.zeroCells,Value.cells]
   .intro i h1 h2;simp [Builtin.zeroCells,Value.cells,Nat.mod_one]
  obtain ⟨vs,hvs⟩:=eqx ((List.replicate (k+1) (0:Int)).map (Value.int .u8));have hvl:vs.length=k+1:=by rw [hvs];simp
  have hst:=run_storeCells_at Tryz.prog g f 5 vs 0 cur W hh (by omega) (fun v hv=>by
   rw [hvs] at hv;simp at hv;rw [hv]
   rfl)
  simp only [Nat.add_zero] at hst;rw [<- hvs] at hz
  have hrun:∀ (ty:TypeId) (c:Nat),(Builtin.clear_ #[28] ty #[qS (some (qR g f)) (k+1) c]).run Tryz.prog W=.ok (.tuple #[]) (W.setRow g (cur.toList.take f++vs++cur.toList.drop (f+vs.length)).toArray):=by
   intro ty c;obtain ⟨i8,hi8,hz0,_,_⟩:=info_parts zC;simp [Builtin.clear_,run_underlying Tryz.underlying28,zeroValue,typeInfo,hi8,hz0,hz,hst]
  have on:=pR g W (cur.toList.take f++vs++cur.toList.drop (f+vs.length)).toArray;have hov:=lR zs f (List.replicate (k+1) 0) (by simp;omega);refine ⟨_,hrun,⟨⟨by simp,.inr ⟨g,cap,_,by rw [hov],hg,setRow_heap W g cur _ 5 (0,0) hh,by rw [hov];exact h1,h2,by simp;omega,?_⟩⟩,yR hr (fun z hz=>by rw [List.eq_of_mem_replicate hz];decide)⟩,⟨on.2.2.1,on.2.2.2.1,on.2.2.2.2,by rw [on.1];exact aN,fun k _ hk=>on.2.1 k hk⟩⟩;have e:=aCh cur.toList vs f zs.length (by omega) (by simp;omega);rw [Nat.mul_one] at h4;rw [h4,hvs,aAz,<- hvs] at e;unfold splice at e;rw [hov,Nat.mul_one,List.toList_toArray,List.append_assoc,<- e]
theorem clear_none (W:qw)(ty:TypeId)(a:qO)(c:Nat):(Builtin.clear_ #[28] ty #[qS a 0 c]).run Tryz.prog W=.ok (.tuple #[]) W:=by
 cases a<;>simp [Builtin.clear_,run_underlying Tryz.underlying28]
set_option maxHeartbeats 2000000 in
theorem firstRegs_any (a:qO)(n cap:Nat)(az:qi)(e:Int)(w:qw)(h:IS w a n cap az)(hn:n<=4)(he:wfi e):
 qC 66 #[qS a n cap,qI e] w fun x w'=>x=.returned (qS (qP w.heap.size) 8 8)/\OI w' w.heap.size (qS (qP w.heap.size) 8 8) ((rgF az n).set 6 e)/\qY w w':=by
 obtain ⟨i0,hi,hz0,hz1,hz2⟩:=info_parts jV;obtain ⟨hl,hmx,hr,hc,_⟩:=h;go_enter Tryz.func66,Tryz.ntmps66
 go_wp2_with (at_make;refine wpList_make_full _ rfl _ _ 25 rfl w.heap.size 3 i0 (qI 0) 1 Tryz.underlying25 hi hz0 hz1 .i64 .i64 _ _ 8 rfl rfl rfl rfl (by rw [hz2];omega) (by unfold maxLen;omega) aN ?_;intro w1 hown hgr)
 have hrow:=(jD hown).oi (base:=w.heap.size) aN (by decide) (fun z hz=>by rw [List.eq_of_mem_replicate hz];unfold wfi;decide);have hbel:=aW hgr;rw [List.length_replicate] at hrow;clear hown hgr hi hz0 hz1 hz2;go_loopw [11] (fun i wr=>∃ k:Nat,k<=n/\i=qI k/\OI wr w.heap.size (qS (qP w.heap.size) 8 8) (rgF az k)/\qY w wr) (qf n)
 .exact ⟨0,xC _,rfl,hrow,hbel⟩
 .obtain ⟨k,hk,rfl,hR,hB⟩:=hrel;clear hrow hbel;by_cases hlt:k<n
  .have hlt':(k:Int)<(n:Int):=by omega
   have hk8:(k:Int)<8:=by omega
   obtain ⟨b,off,rfl,hd⟩:=hc (by omega);have hck:wr.cell? (qR b (off+k))=some (qI (az.getD k 0)):=(hB.cell (xD w _ (hd k hlt))).trans (hd k hlt);have hgk:=hR.is.at k (by omega);rw [Nat.zero_add] at hgk;have hfk:=(aGt hR).frozen k;have R':=aKi hR k (by omega) (az.getD k 0%4294967296) (by unfold wfi;omega);have B':qY w (wr.setCell (qR w.heap.size k) (qI (az.getD k 0%4294967296))):=hB.setCell aN _;have HR:=zh (show OI _ w.heap.size _ (rgF az (k+1)) from R');have HB:=zh B';have hw:=hr (az.getD k 0);clear hR hB R' B' hc hd;generalize az.getD k 0=z at *;go_wp2
   go_roundw
   .exact ⟨k+1,by omega,by go_num,HR.o,HB.o⟩
   .simp [qf,intOf];omega
  .have HE:=zh (show OI (wr.setCell (qR w.heap.size 6) (qI e)) w.heap.size (qS (qP w.heap.size) 8 8) ((rgF az n).set 6 e)/\qY w (wr.setCell (qR w.heap.size 6) (qI e)) from ⟨by rw [show n=k by omega];exact aKi hR 6 (by omega) _ he,hB.setCell aN _⟩);have h6:=hR.is.at 6 (by omega);rw [Nat.zero_add] at h6;have f6:=(aGt hR).frozen 6;clear hR hB hc;go_wp2;go_ret;exact ⟨rfl,HE.o⟩
