import Derived.Test.YtncccmeomcaabaaGreatR01
set_option linter.all false
set_option maxHeartbeats 2000000
namespace Go.Proofs.YtncccmeomcaabaaGreat
open Go.RowKit
open Go.Proofs.Tryz
set_option maxRecDepth 100000
variable {a:qO}{base base' cap g k n:Nat}{cs:Array Value}{v v1 v2 v3:Value}
def gL (w:qw)(base:Nat)(v1 v2 v3:Value)(x1 x2 x3:qi):Prop:=
 OB w base v1 x1/\OB w base v2 x2/\OB w base v3 x3/\(∀ k j,v1.ownBlock=some k->v2.ownBlock=some j->k<j)/\(∀ k j,v1.ownBlock=some k->v3.ownBlock=some j->k<j)/\∀ k j,v2.ownBlock=some k->v3.ownBlock=some j->k<j
theorem OB.bw {w w':qw}{zs:qi}(h:OB w base v zs)(hb:qY w w'):OB w' base v zs:=by
 refine ⟨?_,h.2⟩;obtain ⟨hl,h0|⟨g,cap,cur,hv,hg,hh,h1,h2,h3,h4⟩⟩:=h.1
 .exact ⟨hl,.inl h0⟩
 .refine ⟨hl,.inr ⟨g,cap,cur,hv,hg,?_,h1,h2,h3,h4⟩⟩;exact Blk.bw (w:=w) hh hb
theorem OB.mono {w:qw}{zs:qi}(h:OB w base v zs)(hb:base'<=base):OB w base' v zs:=by
 refine ⟨?_,h.2⟩;obtain ⟨hl,h0|⟨g,cap,cur,hv,hg,hh,h1,h2,h3,h4⟩⟩:=h.1
 .exact ⟨hl,.inl h0⟩
 .exact ⟨hl,.inr ⟨g,cap,cur,hv,by omega,hh,h1,h2,h3,h4⟩⟩
theorem OB.other {w:qw}{zs:qi}(h:OB w base v zs)(a:Addr)(u:Value)(ha:a.block<base):OB (w.setCell a u) base v zs:=by
 refine ⟨?_,h.2⟩;obtain ⟨hl,h0|⟨g,cap,cur,hv,hg,hh,h1,h2,h3,h4⟩⟩:=h.1
 .exact ⟨hl,.inl h0⟩
 .exact ⟨hl,.inr ⟨g,cap,cur,hv,hg,Blk.other (w:=w) hh a u (by omega),h1,h2,h3,h4⟩⟩
theorem OB.lt {w:qw}{zs:qi}(h:OB w base v zs):∀ k,v.ownBlock=some k->base<=k/\k<w.heap.size:=h.1.lt
theorem OB.bs {w:qw}{zs:qi}(h:OB w base (qS a n cap) zs):BS w a n cap zs:=by
 obtain ⟨hl,⟨h0,h0'⟩|⟨g,cap',cur,hv,hg,hh,h1,h2,h3,h4⟩⟩:=h.1
 .simp at h0;obtain ⟨rfl,rfl,rfl⟩:=h0;exact ⟨h0',xC _,h.2,fun hn=>absurd rfl hn,aN⟩
 .simp at hv;obtain ⟨rfl,rfl,rfl⟩:=hv;refine ⟨rfl,by omega,h.2,fun hn=>⟨g,0,rfl,fun i hi=>?_⟩,h1⟩;rw [Nat.zero_add,Blk.cell (w:=w) hh]
  have:cur.toList[i]?=(zs.map (Value.int .u8))[i]?:=by
   rw [<- h4,List.getElem?_take,if_pos (by omega)]
  rw [Array.getElem?_toList] at this;rw [this];simp [xB,hi]
theorem aEk (b1 o1 b2 o2 b3 o3 n1 c1 n2 c2 n3 c3:Nat)(x1 x2 x3:qi)(w:qw)(h1:BS w (some (qR b1 o1)) n1 c1 x1)(h2:BS w (some (qR b2 o2)) n2 c2 x2)(h3:BS w (some (qR b3 o3)) n3 c3 x3)(hn:n1+n2+n3<=1048576):
 qC 85 #[.agg (qV (some (qR b1 o1)) n1 c1 (some (qR b2 o2)) n2 c2 (some (qR b3 o3)) n3 c3)] w fun e w'=>∃ a1 d1 a2 d2 a3 d3,e=.returned (.agg (qV a1 n1 d1 a2 n2 d2 a3 n3 d3))/\gL w' w.heap.size (qS a1 n1 d1) (qS a2 n2 d2) (qS a3 n3 d3) x1 x2 x3/\qY w w':=by
 have hB0:qY w ((w.alloc (.cells (qV (some (qR b1 o1)) n1 c1 (some (qR b2 o2)) n2 c2 (some (qR b3 o3)) n3 c3) 39)).alloc (.cells (qV none 0 0 none 0 0 none 0 0) 39)):=
  bal.alloc (by simp) _
 have kb:=(Blk.new w (qV (some (qR b1 o1)) n1 c1 (some (qR b2 o2)) n2 c2 (some (qR b3 o3)) n3 c3) 39).alloc (.cells (qV none 0 0 none 0 0 none 0 0) 39);have kr:=Blk.new (w.alloc (.cells (qV (some (qR b1 o1)) n1 c1 (some (qR b2 o2)) n2 c2 (some (qR b3 o3)) n3 c3) 39)) (qV none 0 0 none 0 0 none 0 0) 39;try unfold qY at *
 simp only [xF] at kr;have B1:=h1.bw hB0;have B2:=h2.bw hB0;have B3:=h3.bw hB0;clear h1 h2 h3;go_enter func85,ntmps85
 go_wp2
 go_region_held3 (fun w'=>w'.cell? (qR w.heap.size 0)=some (qS (some (qR b1 o1)) n1 c1)/\w'.cell? (qR w.heap.size 1)=some (qS (some (qR b2 o2)) n2 c2)/\w'.cell? (qR w.heap.size 2)=some (qS (some (qR b3 o3)) n3 c3)) (go_keep)
  (first
    | (go_at_call_of 149 (qS (some (qR b1 o1)) n1 c1);refine (kJ b1 o1 n1 c1 x1 _ (by exact B1) (by omega)).mono ?_;rintro e w1 ⟨a1,d1,rfl,p1,hb1⟩;replace hb1:=dF hb1;obtain ⟨q1,q2,q3,q4⟩:=(kb.bw hb1).three)
    | (go_at_call_of 149 (qS (some (qR b2 o2)) n2 c2);refine (kJ b2 o2 n2 c2 x2 _ (B2.bw hb1) (by omega)).mono ?_;rintro e w2 ⟨a2,d2,rfl,p2,hb2⟩;have hb12:=hb1.trans (hb2.mono hb1.size);obtain ⟨q1,q2,q3,q4⟩:=(kb.bw hb12).three)
    | (go_at_call_of 149 (qS (some (qR b3 o3)) n3 c3);refine (kJ b3 o3 n3 c3 x3 _ (B3.bw hb12) (by omega)).mono ?_;rintro e w3 ⟨a3,d3,rfl,p3,hb3⟩;have hb13:=hb12.trans (hb3.mono hb12.size);obtain ⟨q1,q2,q3,q4⟩:=(kb.bw hb13).three;obtain ⟨q5,q6,q7,q8⟩:=(kr.bw hb13).three))
 have s1:=hb1.size;have s2:=hb2.size;have s3:=hb3.size;simp only [heap_drew,xF] at s1 p1;go_wp2;refine bodyPost_ret (v:=.agg (qV a1 n1 d1 a2 n2 d2 a3 n3 d3)) (by simp [results,results85,go_sem,q5,q6,q7]) rfl ⟨a1,d1,a2,d2,a3,d3,rfl,⟨?_,?_,?_,?_,?_,?_⟩,?_⟩
 .exact (((((p1.bw hb2).bw hb3).other _ _ (by dsimp only;omega)).other _ _ (by dsimp only;omega)).other _ _ (by dsimp only;omega)).mono (by omega)
 .exact ((((p2.bw hb3).other _ _ (by dsimp only;omega)).other _ _ (by dsimp only;omega)).other _ _ (by dsimp only;omega)).mono (by omega)
 .exact (((p3.other _ _ (by dsimp only;omega)).other _ _ (by dsimp only;omega)).other _ _ (by dsimp only;omega)).mono (by omega)
 .intro k j hk hj;have:=p1.lt k hk;have:=p2.lt j hj;omega
 .intro k j hk hj;have:=p1.lt k hk;have:=p3.lt j hj;omega
 .intro k j hk hj;have:=p2.lt k hk;have:=p3.lt j hj;omega
 .exact (((hB0.trans (hb13.mono (by simp;omega))).setCell (by dsimp only;omega) _).setCell (by dsimp only;omega) _).setCell (by dsimp only;omega) _
theorem aC7 (b1 o1 b2 o2 b3 o3 n1 c1 n2 c2 n3 c3:Nat)(x1 x2 x3:qi)(w:qw)(h1:BS w (some (qR b1 o1)) n1 c1 x1)(h2:BS w (some (qR b2 o2)) n2 c2 x2)(h3:BS w (some (qR b3 o3)) n3 c3 x3)(hn:n1+n2+n3<=1048576):
 qC 96 #[.agg (qV (some (qR b1 o1)) n1 c1 (some (qR b2 o2)) n2 c2 (some (qR b3 o3)) n3 c3)] w fun e w'=>∃ a1 d1 a2 d2 a3 d3,e=.returned (.agg (qV a1 n1 d1 a2 n2 d2 a3 n3 d3))/\gL w' w.heap.size (qS a1 n1 d1) (qS a2 n2 d2) (qS a3 n3 d3) x1 x2 x3/\qY w w':=by
 have hB0:qY w ((w.alloc (.cells (qV (some (qR b1 o1)) n1 c1 (some (qR b2 o2)) n2 c2 (some (qR b3 o3)) n3 c3) 39)).alloc (.cells (qV none 0 0 none 0 0 none 0 0) 39)):=
  bal.alloc (by simp) _
 have kb:=(Blk.new w (qV (some (qR b1 o1)) n1 c1 (some (qR b2 o2)) n2 c2 (some (qR b3 o3)) n3 c3) 39).alloc (.cells (qV none 0 0 none 0 0 none 0 0) 39);have kr:=Blk.new (w.alloc (.cells (qV (some (qR b1 o1)) n1 c1 (some (qR b2 o2)) n2 c2 (some (qR b3 o3)) n3 c3) 39)) (qV none 0 0 none 0 0 none 0 0) 39;try unfold qY at *
 simp only [xF] at kr;have B1:=h1.bw hB0;have B2:=h2.bw hB0;have B3:=h3.bw hB0;clear h1 h2 h3;go_enter func96,ntmps96
 go_wp2
 go_region_held3 (fun w'=>w'.cell? (qR w.heap.size 0)=some (qS (some (qR b1 o1)) n1 c1)/\w'.cell? (qR w.heap.size 1)=some (qS (some (qR b2 o2)) n2 c2)/\w'.cell? (qR w.heap.size 2)=some (qS (some (qR b3 o3)) n3 c3)) (go_keep)
  (first
    | (go_at_call_of 164 (qS (some (qR b1 o1)) n1 c1);refine (oR b1 o1 n1 c1 x1 _ (by exact B1) (by omega)).mono ?_;rintro e w1 ⟨a1,d1,rfl,p1,hb1⟩;replace hb1:=dF hb1;obtain ⟨q1,q2,q3,q4⟩:=(kb.bw hb1).three)
    | (go_at_call_of 164 (qS (some (qR b2 o2)) n2 c2);refine (oR b2 o2 n2 c2 x2 _ (B2.bw hb1) (by omega)).mono ?_;rintro e w2 ⟨a2,d2,rfl,p2,hb2⟩;have hb12:=hb1.trans (hb2.mono hb1.size);obtain ⟨q1,q2,q3,q4⟩:=(kb.bw hb12).three)
    | (go_at_call_of 164 (qS (some (qR b3 o3)) n3 c3);refine (oR b3 o3 n3 c3 x3 _ (B3.bw hb12) (by omega)).mono ?_;rintro e w3 ⟨a3,d3,rfl,p3,hb3⟩;have hb13:=hb12.trans (hb3.mono hb12.size);obtain ⟨q1,q2,q3,q4⟩:=(kb.bw hb13).three;obtain ⟨q5,q6,q7,q8⟩:=(kr.bw hb13).three))
 have s1:=hb1.size;have s2:=hb2.size;have s3:=hb3.size;simp only [heap_drew,xF] at s1 p1;go_wp2;refine bodyPost_ret (v:=.agg (qV a1 n1 d1 a2 n2 d2 a3 n3 d3)) (by simp [results,results96,go_sem,q5,q6,q7]) rfl ⟨a1,d1,a2,d2,a3,d3,rfl,⟨?_,?_,?_,?_,?_,?_⟩,?_⟩
 .exact (((((p1.bw hb2).bw hb3).other _ _ (by dsimp only;omega)).other _ _ (by dsimp only;omega)).other _ _ (by dsimp only;omega)).mono (by omega)
 .exact ((((p2.bw hb3).other _ _ (by dsimp only;omega)).other _ _ (by dsimp only;omega)).other _ _ (by dsimp only;omega)).mono (by omega)
 .exact (((p3.other _ _ (by dsimp only;omega)).other _ _ (by dsimp only;omega)).other _ _ (by dsimp only;omega)).mono (by omega)
 .intro k j hk hj;have:=p1.lt k hk;have:=p2.lt j hj;omega
 .intro k j hk hj;have:=p1.lt k hk;have:=p3.lt j hj;omega
 .intro k j hk hj;have:=p2.lt k hk;have:=p3.lt j hj;omega
 .exact (((hB0.trans (hb13.mono (by simp;omega))).setCell (by dsimp only;omega) _).setCell (by dsimp only;omega) _).setCell (by dsimp only;omega) _
theorem aJw (v:Int):((v.tmod 4294967296)+4294967296).tmod 4294967296=v%4294967296:=by
 have h:=Int.tmod_eq_emod (a:=v) (b:=4294967296)
 have hlt:-4294967296<v.tmod 4294967296:=by
  have:=Int.lt_tmod_of_pos v (show (0:Int)<4294967296 by omega);exact this
 rw [xL (by omega)];split at h<;>omega
theorem aEj (v:Int)(w:qw)(hv:-9223372036854775808<=v/\v<=9223372036854775807):
 qC 116 #[qI v,qI 4294967296] w fun e w'=>e=.returned (qI (v%4294967296))/\w=w':=by
 have hlt:-4294967296<v.tmod 4294967296:=Int.lt_tmod_of_pos v (by omega);have hgt:v.tmod 4294967296<4294967296:=Int.tmod_lt_of_pos v (by omega);have HM:=zh (aJw v);go_enter func116,ntmps116
 go_wp2;go_ret;exact ⟨aH (by have:=HM.o;rwa [xL (by omega)] at this),rfl⟩
theorem tH (v:Int)(w:qw)(hv:-9223372036854775808<=v/\v<=9223372036854775807):
 qC 61 #[qI v] w fun e w'=>e=.returned (qI (v%4294967296))/\w=w':=by
 go_enter func61,ntmps61
 go_wp2_with fail
 refine (aEj v _ hv).mono ?_;rintro e w1 ⟨rfl,rfl⟩;go_wp2;go_ret;exact ⟨rfl,rfl⟩
def bt (v:Int)(j:Nat):Int:=v/(256:Int)^j%256
def zU (w:qw)(g k:Nat)(v:Int):Nat->World
 | 0=>w
 | j+1=>(zU w g k v j).setCell (qR g (k+j)) (.int .u8 (bt v j))
def put (zs:qi)(k:Nat)(v:Int):Nat->List Int
 | 0=>zs
 | j+1=>(put zs k v j).set (k+j) (bt v j)
theorem kQ (v:Int)(j:Nat):0<=bt v j/\bt v j<=255:=by unfold bt;omega
theorem aM6 (v:Int)(j:Nat):v/(256:Int)^j/256=v/(256:Int)^(j+1):=by
 rw [Int.pow_succ,Int.ediv_ediv_of_nonneg (Int.le_of_lt (Int.pow_pos (by omega)))]
theorem pZ (zs:qi)(k:Nat)(v:Int):∀ j,(put zs k v j).length=zs.length
 | 0=>rfl
 | j+1=>by rw [put,List.length_set,pZ zs k v j]
def Room (w:qw)(g n:Nat):Prop:=∃ cur,Blk w g cur 5/\n<=cur.size
theorem Room.cell {w:qw}(h:Room w g n)(i:Nat)(hi:i<n):∃ u,w.cell? (qR g i)=some u:=by
 obtain ⟨cur,hb,hn⟩:=h;rw [hb.cell];exact ⟨cur[i],by simp⟩
theorem Room.frozen {w:qw}(h:Room w g n)(i:Nat):w.frozen? (qR g i)=false:=by
 obtain ⟨cur,hb,hn⟩:=h;exact hb.frozen i
theorem Room.set {w:qw}(h:Room w g n)(i:Nat)(u:Value):Room (w.setCell (qR g i) u) g n:=by
 obtain ⟨cur,hb,hn⟩:=h;exact ⟨_,hb.set i u,by simpa using hn⟩
theorem Room.put {w:qw}{g n:Nat}(h:Room w g n)(k:Nat)(v:Int):∀ j,Room (zU w g k v j) g n
 | 0=>h
 | j+1=>(Room.put h k v j).set (k+j) _
theorem wS (g n cap k:Nat)(s v:Int)(w:qw)(h:Room w g n)(hn:n<=16384)(hs1:1<=s)(hs:s<=4)(hk:(k:Int)+s<=n)(hv0:0<=v)(hv1:v<=4294967295):
 qC 145 #[qS (qP g) n cap,qI k,qI s,qI v] w fun e w'=>e=.returned (.tuple #[])/\w'=zU w g k v s.toNat:=by
 go_enter func145,ntmps145
 go_wp2;go_loopw [3,8] (fun x i wr=>∃ j:Nat,(j:Int)<=s/\i=qI j/\x=qI (v/(256:Int)^j)/\wr=zU w g k v j) (fun _ i _=>s.toNat-(intOf i).toNat)
 .exact ⟨0,by omega,rfl,by simp,rfl⟩
 .obtain ⟨j,hj,rfl,rfl,rfl⟩:=hrel;by_cases hlt:(j:Int)<s
  .have hR:=h.put k v j;obtain ⟨u,hu⟩:=hR.cell (k+j) (by omega);have hf:=hR.frozen (k+j);have hp:0<(256:Int)^j:=Int.pow_pos (by omega);have hq0:0<=v/(256:Int)^j:=Int.ediv_nonneg hv0 (by omega);have hq1:v/(256:Int)^j<=v:=Int.ediv_le_self _ hv0;have HS:=zh (aM6 v j);have hW:zU w g k v (j+1)=(zU w g k v j).setCell (qR g (k+j)) (.int .u8 (v/(256:Int)^j%256)):=rfl;have HW:=zh hW;clear hW hR hp;generalize zU w g k v j=W at *;generalize v/(256:Int)^j=q at *;go_wp2
   go_roundw
   .exact ⟨j+1,by omega,by go_num,by rw [HS.o],HW.o.symm⟩
   .simp [intOf];omega
  .have hjs:s.toNat=j:=by omega
   have HJ:=zh hjs;clear hjs;generalize v/(256:Int)^j=q at *;go_wp2
   go_end0
   exact ⟨rfl,by rw [HJ.o]⟩
def rO (w:qw)(g k:Nat)(v:Int):World:=
 (((w.setCell (qR g (k+3)) (.int .u8 (bt v 3))).setCell (qR g (k+2)) (.int .u8 (bt v 2))).setCell (qR g (k+1)) (.int .u8 (bt v 1))).setCell (qR g k) (.int .u8 (bt v 0))
theorem bt0 (v:Int):bt v 0=v%256:=by unfold bt;simp
theorem bt1 (v:Int):bt v 1=v/256%256:=by unfold bt;simp
theorem bt2 (v:Int):bt v 2=v/65536%256:=by unfold bt;rw [show (256:Int)^2=65536 from rfl]
theorem bt3 (v:Int):bt v 3=v/16777216%256:=by unfold bt;rw [show (256:Int)^3=16777216 from rfl]
theorem lZ (g n cap k:Nat)(v:Int)(w:qw)(h:Room w g (k+4))(hn:4<=n)(hv:-9223372036854775808<=v/\v<=9223372036854775807):
 qC 233 #[qS (some (qR g k)) n cap,qI 4,qI v] w fun e w'=>e=.returned (.tuple #[])/\w'=rO w g k v:=by
 obtain ⟨u0,c0⟩:=h.cell k (by omega);obtain ⟨u1,c1⟩:=h.cell (k+1) (by omega);obtain ⟨u2,c2⟩:=h.cell (k+2) (by omega);obtain ⟨u3,c3⟩:=h.cell (k+3) (by omega);have hf:∀ i,w.frozen? (qR g i)=false:=h.frozen;have hl:(3:Int)<(n:Int):=by omega
 obtain ⟨hv0,hv1⟩:=hv;have HP:Zh (rO w g k v=rO w g k v):=rfl;unfold rO;rw [bt3,bt2,bt1,bt0];go_enter func233,ntmps233
 go_wp2
 go_end0
 exact ⟨rfl,rfl⟩
theorem aM5 (v:Int):bt (v%4294967296) 0=bt v 0/\bt (v%4294967296) 1=bt v 1/\bt (v%4294967296) 2=bt v 2/\bt (v%4294967296) 3=bt v 3:=by
 rw [bt0,bt1,bt2,bt3,bt0,bt1,bt2,bt3];omega
theorem aHc (zs:qi)(k:Nat)(v:Int):put zs k v 4=(((zs.set (k+3) (bt v 3)).set (k+2) (bt v 2)).set (k+1) (bt v 1)).set k (bt v 0):=by
 simp only [put,Nat.add_zero];rw [List.set_comm _ _ (show k≠k+1 by omega),List.set_comm _ _ (show k≠k+2 by omega),List.set_comm _ _ (show k≠k+3 by omega)];congr 1;rw [List.set_comm _ _ (show k+1≠k+2 by omega),List.set_comm _ _ (show k+1≠k+3 by omega)];congr 1;rw [List.set_comm _ _ (show k+2≠k+3 by omega)]
theorem nV {w:qw}{zs:qi}(h:OB w base (qS (qP g) n cap) zs)(i:Nat)(hi:i<n)(z:Int)(hz:0<=z/\z<=255):OB (w.setCell (qR g i) (.int .u8 z)) base (qS (qP g) n cap) (zs.set i z):=by
 obtain ⟨⟨hl,h0|⟨g',cap',cur,hv,hg,hh,h1,h2,h3,h4⟩⟩,hr⟩:=h
 .simp at h0
 .simp at hv;obtain ⟨rfl,rfl,rfl⟩:=hv;refine ⟨⟨by simp,.inr ⟨g,cap,cur.setIfInBounds i (.int .u8 z),by simp,hg,Blk.set (w:=w) hh i _,by simpa using h1,h2,by simpa using h3,?_⟩⟩,?_⟩
  .rw [List.length_set,xW,List.take_set,h4,List.map_set]
  .intro y hy;rcases List.mem_or_eq_of_mem_set hy with hy|rfl
   .exact hr y hy
   .exact hz
theorem aD0 {w:qw}{base g n cap:Nat}{zs:qi}(h:OB w base (qS (qP g) n cap) zs)(k:Nat)(v:Int):∀ j,k+j<=n->OB (zU w g k v j) base (qS (qP g) n cap) (put zs k v j)
 | 0,_=>h
 | j+1,hj=>nV (aD0 h k v j (by omega)) (k+j) (by omega) _ (kQ v j)
theorem sH {w:qw}{zs:qi}(h:OB w base (qS (qP g) n cap) zs)(k:Nat)(v:Int)(hk:k+4<=n:=by omega):OB (rO w g k v) base (qS (qP g) n cap) (put zs k v 4):=by
 rw [aHc];exact nV (nV (nV (nV h (k+3) (by omega) _ (kQ v 3)) (k+2) (by omega) _ (kQ v 2)) (k+1) (by omega) _ (kQ v 1)) k (by omega) _ (kQ v 0)
theorem mV {w:qw}{zs:qi}(h:OB w base (qS (qP g) n cap) zs):Room w g n:=by
 obtain ⟨⟨hl,h0|⟨g',cap',cur,hv,hg,hh,h1,h2,h3,h4⟩⟩,hr⟩:=h
 .simp at h0
 .simp at hv;obtain ⟨rfl,rfl,rfl⟩:=hv;exact ⟨cur,hh,by omega⟩
def fF (g:Nat)(w w':qw):Prop:=w'.heap.size=w.heap.size/\(∀ k,k≠g->w'.heap[k]?=w.heap[k]?)/\w'.os=w.os/\w'.tape=w.tape/\w'.output=w.output
theorem iD (g:Nat)(w:qw):fF g w w:=⟨rfl,fun _ _=>rfl,rfl,rfl,rfl⟩
theorem jV {w w':qw}(h:fF g w w')(i:Nat)(u:Value):fF g w (w'.setCell (qR g i) u):=
 ⟨by rw [aL];exact h.1,fun k hk=>by rw [heap_setCell_other _ _ _ _ hk];exact h.2.1 k hk,h.2.2.1,h.2.2.2.1,h.2.2.2.2⟩
theorem sD (g k:Nat)(v:Int)(w:qw):∀ j,fF g w (zU w g k v j)
 | 0=>iD g w
 | j+1=>jV (sD g k v w j) (k+j) _
theorem iZ (g k:Nat)(v:Int)(w:qw):fF g w (rO w g k v):=jV (jV (jV (jV (iD g w) _ _) _ _) _ _) _ _
theorem cW {B:Nat}{a w w':qw}(h:Below B a w)(ho:fF g w w')(hg:B<=g):Below B a w':=
 ⟨ho.2.2.1.trans h.os,ho.2.2.2.1.trans h.tape,ho.2.2.2.2.trans h.output,by rw [ho.1];exact h.size,fun k hk=>(ho.2.1 k (by omega)).trans (h.block k hk)⟩
theorem bT {w w':qw}{t:TypeId}(ho:fF g w w')(h:Blk w k cs t)(hk:k≠g):Blk w' k cs t:=by
 unfold Blk at *;rw [ho.2.1 k hk];exact h
theorem qH {w w':qw}{zs:qi}(ho:fF g w w')(h:OB w base v zs)(hk:v.ownBlock≠some g):OB w' base v zs:=by
 refine ⟨?_,h.2⟩;obtain ⟨hl,h0|⟨g',cap,cur,rfl,hg,hh,h1,h2,h3,h4⟩⟩:=h.1
 .exact ⟨hl,.inl h0⟩
 .refine ⟨hl,.inr ⟨g',cap,cur,rfl,hg,?_,h1,h2,h3,h4⟩⟩;exact bT ho hh (by intro e;subst e;exact hk rfl)
theorem aJd (zs:qi)(k:Nat)(v:Int):put zs k (v%4294967296) 4=put zs k v 4/\put zs k (v%4294967296) 2=put zs k v 2/\put zs k (v%4294967296) 1=put zs k v 1:=by
 obtain ⟨e0,e1,e2,e3⟩:=aM5 v;simp only [put,e0,e1,e2,e3,and_self]
theorem rX {w w':qw}{x1 x2 x3:qi}(h:gL w base v1 v2 v3 x1 x2 x3)(hb:qY w w'):gL w' base v1 v2 v3 x1 x2 x3:=
 ⟨h.1.bw hb,h.2.1.bw hb,h.2.2.1.bw hb,h.2.2.2⟩
theorem aHh {w:qw}{x1 x2 x3:qi}(h:gL w base v1 v2 v3 x1 x2 x3)(hb:base'<=base):gL w base' v1 v2 v3 x1 x2 x3:=
 ⟨h.1.mono hb,h.2.1.mono hb,h.2.2.1.mono hb,h.2.2.2⟩
theorem cJ {w w':qw}{row:Option Nat}{t:TypeId}(hg:w.grownBy w' row)(h:Blk w k cs t)(hk:some k≠row):Blk w' k cs t:=by
 have:=hg.block k h.lt hk;unfold Blk at *;rw [this];exact h
theorem aU {S:Nat->Prop}{w w':qw}{zs:qi}(ht:Turn S w w')(h:OB w base v zs)(hk:∀ k,v.ownBlock=some k->¬ S k):OB w' base v zs:=by
 refine ⟨?_,h.2⟩;obtain ⟨hl,h0|⟨g',cap,cur,rfl,hg,hh,h1,h2,h3,h4⟩⟩:=h.1
 .exact ⟨hl,.inl h0⟩
 .exact ⟨hl,.inr ⟨g',cap,cur,rfl,hg,aF ht hh (hk g' rfl),h1,h2,h3,h4⟩⟩
abbrev Bk:=qO×Nat×Nat×List Int
def zB:Bk:=(none,0,0,[])
def BKS (w:qw)(a:qO)(n cap:Nat)(bl:List Bk):Prop:=
 bl.length=n/\n<=maxLen/\(n≠0->∃ b off,a=some (qR b off)/\∀ i,i<n->w.cell? (qR b (off+i))=some (.slice (bl.getD i zB).1 (bl.getD i zB).2.1 (bl.getD i zB).2.2.1))/\(∀ i,i<n->IS w (bl.getD i zB).1 (bl.getD i zB).2.1 (bl.getD i zB).2.2.1 (bl.getD i zB).2.2.2)/\n<=cap
theorem BKS.bw {w w':qw}{bl:List Bk}(h:BKS w a n cap bl)(hb:qY w w'):BKS w' a n cap bl:=by
 obtain ⟨h1,h2,h3,h4,h5⟩:=h;refine ⟨h1,h2,fun hn=>?_,fun i hi=>(h4 i hi).bw hb,h5⟩;obtain ⟨b,off,e,hc⟩:=h3 hn;exact ⟨b,off,e,fun i hi=>(hb.cell (xD w _ (hc i hi))).trans (hc i hi)⟩
theorem BKS.addr {w:qw}{bl:List Bk}(h:BKS w a n cap bl)(hn:n≠0):∃ b off,a=some (qR b off):=by
 obtain ⟨b,off,e,_⟩:=h.2.2.1 hn;exact ⟨b,off,e⟩
theorem BKS.at {w:qw}{b off n cap:Nat}{bl:List Bk}(h:BKS w (some (qR b off)) n cap bl)(i:Nat)(hi:i<n):w.cell? (qR b (off+i))=some (.slice (bl.getD i zB).1 (bl.getD i zB).2.1 (bl.getD i zB).2.2.1):=by
 obtain ⟨b',off',e,hc⟩:=h.2.2.1 (by omega);simp at e;obtain ⟨rfl,rfl⟩:=e;exact hc i hi
def bko (b:Bk):Bool:=decide (1<=b.2.1/\b.2.1<=64)&&wds b.2.2.2
def cdo (tn:Nat)(tz:qi)(bn:Nat)(bl:List Bk):Bool:=decide (tn<=200/\bn<=4)&&(wds tz&&bl.all bko)
theorem aBf (bl:List Bk)(k:Nat)(hk:k<bl.length)(h:bko (bl.getD k zB)=false):bl.all bko=false:=by
 rw [List.all_eq_false];exact ⟨bl[k],List.getElem_mem _,by rw [show bl.getD k zB=bl[k] by simp [xB,hk]] at h;simp [h]⟩
theorem uH (bl:List Bk)(h:∀ j,j<bl.length->bko (bl.getD j zB)=true):bl.all bko=true:=by
 rw [List.all_eq_true];intro z hz;obtain ⟨i,hi,rfl⟩:=List.getElem_of_mem hz;have:=h i hi
 rwa [show bl.getD i zB=bl[i] by simp [xB,hi]] at this
theorem Blk.eight {w:qw}{a b c d e f x y:Value}{t:TypeId}(h:Blk w g #[a,b,c,d,e,f,x,y] t):
 w.cell? (qR g 0)=some a/\w.cell? (qR g 1)=some b/\w.cell? (qR g 2)=some c/\w.cell? (qR g 3)=some d/\w.cell? (qR g 4)=some e/\w.cell? (qR g 5)=some f/\w.cell? (qR g 6)=some x/\w.cell? (qR g 7)=some y:=
 ⟨by rw [h.cell];rfl,by rw [h.cell];rfl,by rw [h.cell];rfl,by rw [h.cell];rfl,by rw [h.cell];rfl,by rw [h.cell];rfl,by rw [h.cell];rfl,by rw [h.cell];rfl⟩
theorem aAp (nm:ByteArray)(ta:qO)(tn tc:Nat)(tz:qi)(ba:qO)(bn bc:Nat)(bl:List Bk)(v3 v5 v6 v7:Value)(bss:Int)(w:qw)(ht:IS w ta tn tc tz)(hb:BKS w ba bn bc bl):
 qC 204 #[.agg #[.string nm,qS ta tn tc,qS ba bn bc,v3,qI bss,v5,v6,v7]] w (qB w (.bool (cdo tn tz bn bl))):=by
 obtain ⟨W,hW,hB0,kb⟩:=nwb w #[.string nm,qS ta tn tc,qS ba bn bc,v3,qI bss,v5,v6,v7] 138;obtain ⟨q0,q1,q2,q3,q4,q5,q6,q7⟩:=kb.eight;have HT:=zh (fun w h=>pC ta tn tc tz w h);obtain ⟨r,hr⟩:=eqx (cdo tn tz bn bl);rw [<- hr];unfold cdo at hr;have ht0:=ht.bw hB0;have hb0:=hb.bw hB0;have hm1:=ht.2.1;have hm2:=hb.2.1;unfold maxLen at hm1 hm2;have HW:=zh hW;clear hW;by_cases c1:200<tn
 .have HR:=zh (show r=false by rw [hr,xS (by omega)];rfl);clear hr;have c1':(200:Int)<(tn:Int):=by omega
  go_enter func204,ntmps204
  go_wp2_with (rw [<- HW.o])
  go_ret;exact ⟨aA HR.o.symm,hB0⟩
 .have c1':¬ (200:Int)<(tn:Int):=by omega
  by_cases c2:4<bn
  .have HR:=zh (show r=false by rw [hr,xS (by omega)];rfl);clear hr;have c2':(4:Int)<(bn:Int):=by omega
   go_enter func204,ntmps204
   go_wp2_with (rw [<- HW.o])
   go_ret;exact ⟨aA HR.o.symm,hB0⟩
  .have c2':¬ (4:Int)<(bn:Int):=by omega
   cases hz:wds tz
   .rw [hz] at HT;have HR:=zh (show r=false by rw [hr,hz];simp);clear hr;go_enter func204,ntmps204
    go_wp2_with (first|(rw [<- HW.o])|(go_at_call 224;refine (HT.o _ ht0).mono ?_;rintro e w1 ⟨rfl,rfl⟩))
    go_ret;exact ⟨aA HR.o.symm,hB0⟩
   .rw [hz] at HT;have hr':r=bl.all bko:=by rw [hr,hz,xR (by omega)];simp
    have HR:=zh hr';clear hr hr';have hl:=hb.1;go_enter func204,ntmps204
    go_wp2_with (first|(rw [<- HW.o])|(go_at_call 224;refine (HT.o _ ht0).mono ?_;rintro e w1 ⟨rfl,rfl⟩))
    go_loop [3] (fun i=>∃ k:Nat,k<=bn/\i=qI k/\Hid (∀ j,j<k->bko (bl.getD j zB)=true)) (fun i=>bn-(intOf i).toNat)
    .exact ⟨0,xC _,rfl,zh (fun j hj=>by omega)⟩
    .obtain ⟨k,hk,rfl,HJ⟩:=hrel;by_cases hlt:k<bn
     .have hlt':(k:Int)<(bn:Int):=by omega
      obtain ⟨bb,off,rfl⟩:=hb0.addr (by omega);have hck:=hb0.at k hlt;have hik:=hb0.2.2.2.1 k hlt;have HZ:=zh (aBf bl k (by omega))
      have HG:=zh (show bko (bl.getD k zB)=true->∀ j,j<k+1->bko (bl.getD j zB)=true from fun h j hj=>by
       by_cases e:j=k
       .subst e;exact h
       .exact HJ.out j (by omega))
      generalize bl.getD k zB=B at *;obtain ⟨xa,xn,xc,xz⟩:=B;dsimp only at hck hik;have hxm:=hik.2.1;unfold maxLen at hxm;have HX:=zh (fun w h=>pC xa xn xc xz w h);by_cases d1:xn<1
      .have d1':(xn:Int)<1:=by omega
       go_wp2;go_ret;exact ⟨aA (by rw [HR.o];exact (HZ.o (by unfold bko;dsimp only;rw [decide_eq_false (by omega)];rfl)).symm),hB0⟩
      .have d1':¬ (xn:Int)<1:=by omega
       by_cases d2:64<xn
       .have d2':(64:Int)<(xn:Int):=by omega
        go_wp2;go_ret;exact ⟨aA (by rw [HR.o];exact (HZ.o (by unfold bko;dsimp only;rw [decide_eq_false (by omega)];rfl)).symm),hB0⟩
       .have d2':¬ (64:Int)<(xn:Int):=by omega
        cases hx:wds xz
        .rw [hx] at HX;go_wp2_with (go_at_call 224;refine (HX.o _ hik).mono ?_;rintro e w1 ⟨rfl,rfl⟩)
         go_ret;exact ⟨aA (by rw [HR.o];exact (HZ.o (by unfold bko;dsimp only;rw [hx];simp)).symm),hB0⟩
        .rw [hx] at HX;go_wp2_with (go_at_call 224;refine (HX.o _ hik).mono ?_;rintro e w1 ⟨rfl,rfl⟩)
         go_round
         .exact ⟨k+1,by omega,by go_num,zh (HG.o (by unfold bko;dsimp only;rw [hx,decide_eq_true (by omega)];rfl))⟩
         .simp [intOf];omega
     .have HE:=zh (uH bl (fun j hj=>HJ.out j (by omega)));go_wp2;go_ret;exact ⟨aA (by rw [HR.o];exact HE.o.symm),hB0⟩
theorem aE5 (nm:ByteArray)(ta:qO)(tn tc:Nat)(tz:qi)(ba:qO)(bn bc:Nat)(bl:List Bk)(v3 v5 v6 v7:Value)(bss:Int)(w:qw)(ht:IS w ta tn tc tz)(hb:BKS w ba bn bc bl):
 qC 227 #[.agg #[.string nm,qS ta tn tc,qS ba bn bc,v3,qI bss,v5,v6,v7]] w (qB w (.bool (cdo tn tz bn bl))):=by
 obtain ⟨W,hW,hB0,kb⟩:=nwb w #[.string nm,qS ta tn tc,qS ba bn bc,v3,qI bss,v5,v6,v7] 138;obtain ⟨q0,q1,q2,q3,q4,q5,q6,q7⟩:=kb.eight;have HT:=zh (fun w h=>nK ta tn tc tz w h);obtain ⟨r,hr⟩:=eqx (cdo tn tz bn bl);rw [<- hr];unfold cdo at hr;have ht0:=ht.bw hB0;have hb0:=hb.bw hB0;have hm1:=ht.2.1;have hm2:=hb.2.1;unfold maxLen at hm1 hm2;have HW:=zh hW;clear hW;by_cases c1:200<tn
 .have HR:=zh (show r=false by rw [hr,xS (by omega)];rfl);clear hr;have c1':(200:Int)<(tn:Int):=by omega
  go_enter func227,ntmps227
  go_wp2_with (rw [<- HW.o])
  go_ret;exact ⟨aA HR.o.symm,hB0⟩
 .have c1':¬ (200:Int)<(tn:Int):=by omega
  by_cases c2:4<bn
  .have HR:=zh (show r=false by rw [hr,xS (by omega)];rfl);clear hr;have c2':(4:Int)<(bn:Int):=by omega
   go_enter func227,ntmps227
   go_wp2_with (rw [<- HW.o])
   go_ret;exact ⟨aA HR.o.symm,hB0⟩
  .have c2':¬ (4:Int)<(bn:Int):=by omega
   cases hz:wds tz
   .rw [hz] at HT;have HR:=zh (show r=false by rw [hr,hz];simp);clear hr;go_enter func227,ntmps227
    go_wp2_with (first|(rw [<- HW.o])|(go_at_call 246;refine (HT.o _ ht0).mono ?_;rintro e w1 ⟨rfl,rfl⟩))
    go_ret;exact ⟨aA HR.o.symm,hB0⟩
   .rw [hz] at HT;have hr':r=bl.all bko:=by rw [hr,hz,xR (by omega)];simp
    have HR:=zh hr';clear hr hr';have hl:=hb.1;go_enter func227,ntmps227
    go_wp2_with (first|(rw [<- HW.o])|(go_at_call 246;refine (HT.o _ ht0).mono ?_;rintro e w1 ⟨rfl,rfl⟩))
    go_loop [24] (fun i=>∃ k:Nat,k<=bn/\i=qI k/\Hid (∀ j,j<k->bko (bl.getD j zB)=true)) (fun i=>bn-(intOf i).toNat)
    .exact ⟨0,xC _,rfl,zh (fun j hj=>by omega)⟩
    .obtain ⟨k,hk,rfl,HJ⟩:=hrel;by_cases hlt:k<bn
     .have hlt':(k:Int)<(bn:Int):=by omega
      obtain ⟨bb,off,rfl⟩:=hb0.addr (by omega);have hck:=hb0.at k hlt;have hik:=hb0.2.2.2.1 k hlt;have HZ:=zh (aBf bl k (by omega))
      have HG:=zh (show bko (bl.getD k zB)=true->∀ j,j<k+1->bko (bl.getD j zB)=true from fun h j hj=>by
       by_cases e:j=k
       .subst e;exact h
       .exact HJ.out j (by omega))
      generalize bl.getD k zB=B at *;obtain ⟨xa,xn,xc,xz⟩:=B;dsimp only at hck hik;have hxm:=hik.2.1;unfold maxLen at hxm;have HX:=zh (fun w h=>nK xa xn xc xz w h);by_cases d1:xn<1
      .have d1':(xn:Int)<1:=by omega
       go_wp2;go_ret;exact ⟨aA (by rw [HR.o];exact (HZ.o (by unfold bko;dsimp only;rw [decide_eq_false (by omega)];rfl)).symm),hB0⟩
      .have d1':¬ (xn:Int)<1:=by omega
       by_cases d2:64<xn
       .have d2':(64:Int)<(xn:Int):=by omega
        go_wp2;go_ret;exact ⟨aA (by rw [HR.o];exact (HZ.o (by unfold bko;dsimp only;rw [decide_eq_false (by omega)];rfl)).symm),hB0⟩
       .have d2':¬ (64:Int)<(xn:Int):=by omega
        cases hx:wds xz
        .rw [hx] at HX;go_wp2_with (go_at_call 246;refine (HX.o _ hik).mono ?_;rintro e w1 ⟨rfl,rfl⟩)
         go_ret;exact ⟨aA (by rw [HR.o];exact (HZ.o (by unfold bko;dsimp only;rw [hx];simp)).symm),hB0⟩
        .rw [hx] at HX;go_wp2_with (go_at_call 246;refine (HX.o _ hik).mono ?_;rintro e w1 ⟨rfl,rfl⟩)
         go_round
         .exact ⟨k+1,by omega,by go_num,zh (HG.o (by unfold bko;dsimp only;rw [hx,decide_eq_true (by omega)];rfl))⟩
         .simp [intOf];omega
     .have HE:=zh (uH bl (fun j hj=>HJ.out j (by omega)));go_wp2;go_ret;exact ⟨aA (by rw [HR.o];exact HE.o.symm),hB0⟩
