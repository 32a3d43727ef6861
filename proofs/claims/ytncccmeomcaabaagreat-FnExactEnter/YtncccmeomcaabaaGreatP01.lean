import Derived.Laws.BitsLemmas
import Derived.Test.YtncccmeomcaabaaGreatP00
set_option maxHeartbeats 2000000
namespace Go.Proofs.YtncccmeomcaabaaGreat
open Go.RowKit
open Go.Proofs.Tryz
set_option linter.all false
set_option maxRecDepth 100000
variable {S:Nat->Prop}{a:qO}{base base' cap g k n:Nat}{cs:Array Value}{v v1 v2 v3:Value}
theorem aKc (v:Int):((v.tmod 4294967296)+4294967296).tmod 4294967296=v%4294967296:=by
 have h:=Int.tmod_eq_emod (a:=v) (b:=4294967296)
 have hlt:-4294967296<v.tmod 4294967296:=by
  have:=Int.lt_tmod_of_pos v (show (0:Int)<4294967296 by omega);exact this
 rw [xL (by omega)];split at h<;>omega
theorem aEz (v:Int)(w:qw)(hv:-9223372036854775808<=v/\v<=9223372036854775807):
 qC 116 #[qI v,qI 4294967296] w fun e w'=>e=.returned (qI (v%4294967296))/\w=w':=by
 have hlt:-4294967296<v.tmod 4294967296:=Int.lt_tmod_of_pos v (by omega);have hgt:v.tmod 4294967296<4294967296:=Int.tmod_lt_of_pos v (by omega);have HM:=zh (aKc v);go_enter func116,ntmps116
 go_wp2;go_ret;exact ⟨aH (by have:=HM.o;rwa [xL (by omega)] at this),rfl⟩
theorem tS (v:Int)(w:qw)(hv:-9223372036854775808<=v/\v<=9223372036854775807):
 qC 61 #[qI v] w fun e w'=>e=.returned (qI (v%4294967296))/\w=w':=by
 go_enter func61,ntmps61
 go_wp2_with fail
 refine (aEz v _ hv).mono ?_;rintro e w1 ⟨rfl,rfl⟩;go_wp2;go_ret;exact ⟨rfl,rfl⟩
def bt (v:Int)(j:Nat):Int:=v/(256:Int)^j%256
def aAh (w:qw)(g k:Nat)(v:Int):Nat->World
 | 0=>w
 | j+1=>(aAh w g k v j).setCell (qR g (k+j)) (.int .u8 (bt v j))
def put (zs:qi)(k:Nat)(v:Int):Nat->List Int
 | 0=>zs
 | j+1=>(put zs k v j).set (k+j) (bt v j)
theorem kY (v:Int)(j:Nat):0<=bt v j/\bt v j<=255:=by unfold bt;omega
theorem aNl (v:Int)(j:Nat):v/(256:Int)^j/256=v/(256:Int)^(j+1):=by
 rw [Int.pow_succ,Int.ediv_ediv_of_nonneg (Int.le_of_lt (Int.pow_pos (by omega)))]
theorem qU (zs:qi)(k:Nat)(v:Int):∀ j,(put zs k v j).length=zs.length
 | 0=>rfl
 | j+1=>by rw [put,List.length_set,qU zs k v j]
def Room (w:qw)(g n:Nat):Prop:=∃ cur,Blk w g cur 5/\n<=cur.size
theorem Room.cell {w:qw}(h:Room w g n)(i:Nat)(hi:i<n):∃ u,w.cell? (qR g i)=some u:=by
 obtain ⟨cur,hb,hn⟩:=h;rw [hb.cell];exact ⟨cur[i],by simp⟩
theorem Room.frozen {w:qw}(h:Room w g n)(i:Nat):w.frozen? (qR g i)=false:=by
 obtain ⟨cur,hb,hn⟩:=h;exact hb.frozen i
theorem Room.set {w:qw}(h:Room w g n)(i:Nat)(u:Value):Room (w.setCell (qR g i) u) g n:=by
 obtain ⟨cur,hb,hn⟩:=h;exact ⟨_,hb.set i u,by simpa using hn⟩
theorem Room.put {w:qw}{g n:Nat}(h:Room w g n)(k:Nat)(v:Int):∀ j,Room (aAh w g k v j) g n
 | 0=>h
 | j+1=>(Room.put h k v j).set (k+j) _
theorem yM (g n cap k:Nat)(s v:Int)(w:qw)(h:Room w g n)(hn:n<=16384)(hs1:1<=s)(hs:s<=4)(hk:(k:Int)+s<=n)(hv0:0<=v)(hv1:v<=4294967295):
 qC 145 #[qS (qP g) n cap,qI k,qI s,qI v] w fun e w'=>e=.returned (.tuple #[])/\w'=aAh w g k v s.toNat:=by
 go_enter func145,ntmps145
 go_wp2;go_loopw [3,8] (fun x i wr=>∃ j:Nat,(j:Int)<=s/\i=qI j/\x=qI (v/(256:Int)^j)/\wr=aAh w g k v j) (fun _ i _=>s.toNat-(intOf i).toNat)
 .exact ⟨0,by omega,rfl,by simp,rfl⟩
 .obtain ⟨j,hj,rfl,rfl,rfl⟩:=hrel;by_cases hlt:(j:Int)<s
  .have hR:=h.put k v j;obtain ⟨u,hu⟩:=hR.cell (k+j) (by omega);have hf:=hR.frozen (k+j);have hp:0<(256:Int)^j:=Int.pow_pos (by omega);have hq0:0<=v/(256:Int)^j:=Int.ediv_nonneg hv0 (by omega);have hq1:v/(256:Int)^j<=v:=Int.ediv_le_self _ hv0;have HS:=zh (aNl v j);have hW:aAh w g k v (j+1)=(aAh w g k v j).setCell (qR g (k+j)) (.int .u8 (v/(256:Int)^j%256)):=rfl;have HW:=zh hW;clear hW hR hp;generalize aAh w g k v j=W at *;generalize v/(256:Int)^j=q at *;go_wp2
   go_roundw
   .exact ⟨j+1,by omega,by go_num,by rw [HS.o],HW.o.symm⟩
   .simp [intOf];omega
  .have hjs:s.toNat=j:=by omega
   have HJ:=zh hjs;clear hjs;generalize v/(256:Int)^j=q at *;go_wp2
   go_end0
   exact ⟨rfl,by rw [HJ.o]⟩
def sC (w:qw)(g k:Nat)(v:Int):World:=
 (((w.setCell (qR g (k+3)) (.int .u8 (bt v 3))).setCell (qR g (k+2)) (.int .u8 (bt v 2))).setCell (qR g (k+1)) (.int .u8 (bt v 1))).setCell (qR g k) (.int .u8 (bt v 0))
theorem bt0 (v:Int):bt v 0=v%256:=by unfold bt;simp
theorem bt1 (v:Int):bt v 1=v/256%256:=by unfold bt;simp
theorem bt2 (v:Int):bt v 2=v/65536%256:=by unfold bt;rw [show (256:Int)^2=65536 from rfl]
theorem bt3 (v:Int):bt v 3=v/16777216%256:=by unfold bt;rw [show (256:Int)^3=16777216 from rfl]
theorem mA (g n cap k:Nat)(v:Int)(w:qw)(h:Room w g (k+4))(hn:4<=n)(hv:-9223372036854775808<=v/\v<=9223372036854775807):
 qC 233 #[qS (some (qR g k)) n cap,qI 4,qI v] w fun e w'=>e=.returned (.tuple #[])/\w'=sC w g k v:=by
 obtain ⟨u0,c0⟩:=h.cell k (by omega);obtain ⟨u1,c1⟩:=h.cell (k+1) (by omega);obtain ⟨u2,c2⟩:=h.cell (k+2) (by omega);obtain ⟨u3,c3⟩:=h.cell (k+3) (by omega);have hf:∀ i,w.frozen? (qR g i)=false:=h.frozen;have hl:(3:Int)<(n:Int):=by omega
 obtain ⟨hv0,hv1⟩:=hv;have HP:Zh (sC w g k v=sC w g k v):=rfl;unfold sC;rw [bt3,bt2,bt1,bt0];go_enter func233,ntmps233
 go_wp2
 go_end0
 exact ⟨rfl,rfl⟩
theorem aNk (v:Int):bt (v%4294967296) 0=bt v 0/\bt (v%4294967296) 1=bt v 1/\bt (v%4294967296) 2=bt v 2/\bt (v%4294967296) 3=bt v 3:=by
 rw [bt0,bt1,bt2,bt3,bt0,bt1,bt2,bt3];omega
theorem aHu (zs:qi)(k:Nat)(v:Int):put zs k v 4=(((zs.set (k+3) (bt v 3)).set (k+2) (bt v 2)).set (k+1) (bt v 1)).set k (bt v 0):=by
 simp only [put,Nat.add_zero];rw [List.set_comm _ _ (show k≠k+1 by omega),List.set_comm _ _ (show k≠k+2 by omega),List.set_comm _ _ (show k≠k+3 by omega)];congr 1;rw [List.set_comm _ _ (show k+1≠k+2 by omega),List.set_comm _ _ (show k+1≠k+3 by omega)];congr 1;rw [List.set_comm _ _ (show k+2≠k+3 by omega)]
theorem oA {w:qw}{zs:qi}(h:OB w base (qS (qP g) n cap) zs)(i:Nat)(hi:i<n)(z:Int)(hz:0<=z/\z<=255):OB (w.setCell (qR g i) (.int .u8 z)) base (qS (qP g) n cap) (zs.set i z):=by
 obtain ⟨⟨hl,h0|⟨g',cap',cur,hv,hg,hh,h1,h2,h3,h4⟩⟩,hr⟩:=h
 .simp at h0
 .simp at hv;obtain ⟨rfl,rfl,rfl⟩:=hv;refine ⟨⟨by simp,.inr ⟨g,cap,cur.setIfInBounds i (.int .u8 z),by simp,hg,Blk.set (w:=w) hh i _,by simpa using h1,h2,by simpa using h3,?_⟩⟩,?_⟩
  .rw [List.length_set,xW,List.take_set,h4,List.map_set]
  .intro y hy;rcases List.mem_or_eq_of_mem_set hy with hy|rfl
   .exact hr y hy
   .exact hz
theorem aEg {w:qw}{base g n cap:Nat}{zs:qi}(h:OB w base (qS (qP g) n cap) zs)(k:Nat)(v:Int):∀ j,k+j<=n->OB (aAh w g k v j) base (qS (qP g) n cap) (put zs k v j)
 | 0,_=>h
 | j+1,hj=>oA (aEg h k v j (by omega)) (k+j) (by omega) _ (kY v j)
theorem sV {w:qw}{zs:qi}(h:OB w base (qS (qP g) n cap) zs)(k:Nat)(v:Int)(hk:k+4<=n:=by omega):OB (sC w g k v) base (qS (qP g) n cap) (put zs k v 4):=by
 rw [aHu];exact oA (oA (oA (oA h (k+3) (by omega) _ (kY v 3)) (k+2) (by omega) _ (kY v 2)) (k+1) (by omega) _ (kY v 1)) k (by omega) _ (kY v 0)
theorem nA {w:qw}{zs:qi}(h:OB w base (qS (qP g) n cap) zs):Room w g n:=by
 obtain ⟨⟨hl,h0|⟨g',cap',cur,hv,hg,hh,h1,h2,h3,h4⟩⟩,hr⟩:=h
 .simp at h0
 .simp at hv;obtain ⟨rfl,rfl,rfl⟩:=hv;exact ⟨cur,hh,by omega⟩
def fG (g:Nat)(w w':qw):Prop:=w'.heap.size=w.heap.size/\(∀ k,k≠g->w'.heap[k]?=w.heap[k]?)/\w'.os=w.os/\w'.tape=w.tape/\w'.output=w.output
theorem iJ (g:Nat)(w:qw):fG g w w:=⟨rfl,fun _ _=>rfl,rfl,rfl,rfl⟩
theorem jX {w w':qw}(h:fG g w w')(i:Nat)(u:Value):fG g w (w'.setCell (qR g i) u):=
 ⟨by rw [aL];exact h.1,fun k hk=>by rw [heap_setCell_other _ _ _ _ hk];exact h.2.1 k hk,h.2.2.1,h.2.2.2.1,h.2.2.2.2⟩
theorem sP (g k:Nat)(v:Int)(w:qw):∀ j,fG g w (aAh w g k v j)
 | 0=>iJ g w
 | j+1=>jX (sP g k v w j) (k+j) _
theorem jC (g k:Nat)(v:Int)(w:qw):fG g w (sC w g k v):=jX (jX (jX (jX (iJ g w) _ _) _ _) _ _) _ _
theorem cX {B:Nat}{a w w':qw}(h:Below B a w)(ho:fG g w w')(hg:B<=g):Below B a w':=
 ⟨ho.2.2.1.trans h.os,ho.2.2.2.1.trans h.tape,ho.2.2.2.2.trans h.output,by rw [ho.1];exact h.size,fun k hk=>(ho.2.1 k (by omega)).trans (h.block k hk)⟩
theorem bY {w w':qw}{t:TypeId}(ho:fG g w w')(h:Blk w k cs t)(hk:k≠g):Blk w' k cs t:=by
 unfold Blk at *;rw [ho.2.1 k hk];exact h
theorem rG {w w':qw}{zs:qi}(ho:fG g w w')(h:OB w base v zs)(hk:v.ownBlock≠some g):OB w' base v zs:=by
 refine ⟨?_,h.2⟩;obtain ⟨hl,h0|⟨g',cap,cur,rfl,hg,hh,h1,h2,h3,h4⟩⟩:=h.1
 .exact ⟨hl,.inl h0⟩
 .refine ⟨hl,.inr ⟨g',cap,cur,rfl,hg,?_,h1,h2,h3,h4⟩⟩;exact bY ho hh (by intro e;subst e;exact hk rfl)
theorem aJv (zs:qi)(k:Nat)(v:Int):put zs k (v%4294967296) 4=put zs k v 4/\put zs k (v%4294967296) 2=put zs k v 2/\put zs k (v%4294967296) 1=put zs k v 1:=by
 obtain ⟨e0,e1,e2,e3⟩:=aNk v;simp only [put,e0,e1,e2,e3,and_self]
theorem sJ {w w':qw}{x1 x2 x3:qi}(h:gL w base v1 v2 v3 x1 x2 x3)(hb:qY w w'):gL w' base v1 v2 v3 x1 x2 x3:=
 ⟨h.1.bw hb,h.2.1.bw hb,h.2.2.1.bw hb,h.2.2.2⟩
theorem aHz {w:qw}{x1 x2 x3:qi}(h:gL w base v1 v2 v3 x1 x2 x3)(hb:base'<=base):gL w base' v1 v2 v3 x1 x2 x3:=
 ⟨h.1.mono hb,h.2.1.mono hb,h.2.2.1.mono hb,h.2.2.2⟩
theorem cK {w w':qw}{row:Option Nat}{t:TypeId}(hg:w.grownBy w' row)(h:Blk w k cs t)(hk:some k≠row):Blk w' k cs t:=by
 have:=hg.block k h.lt hk;unfold Blk at *;rw [this];exact h
theorem aV {w w':qw}{zs:qi}(ht:Turn S w w')(h:OB w base v zs)(hk:∀ k,v.ownBlock=some k->¬ S k):OB w' base v zs:=by
 refine ⟨?_,h.2⟩;obtain ⟨hl,h0|⟨g',cap,cur,rfl,hg,hh,h1,h2,h3,h4⟩⟩:=h.1
 .exact ⟨hl,.inl h0⟩
 .exact ⟨hl,.inr ⟨g',cap,cur,rfl,hg,aF ht hh (hk g' rfl),h1,h2,h3,h4⟩⟩
theorem IS.at {w:qw}{b off n cap:Nat}{zs:qi}(h:IS w (Option.some (qR b off)) n cap zs)(i:Nat)(hi:i<n):w.cell? (qR b (off+i))=Option.some (qI (zs.getD i 0)):=by
 obtain ⟨b',off',e,hd⟩:=h.2.2.2.1 (by omega);simp at e;obtain ⟨rfl,rfl⟩:=e;exact hd i hi
theorem IS.addr {w:qw}{zs:qi}(h:IS w a n cap zs)(hn:n≠0):∃ b off,a=some (qR b off):=by
 obtain ⟨b,off,e,_⟩:=h.2.2.2.1 hn;exact ⟨b,off,e⟩
def OI (w:qw)(base:Nat)(v:Value)(zs:qi):Prop:=w.ownsRow base 3 1 v zs.length (zs.map (Value.int .i64))/\∀ z∈zs,wfi z
theorem aA3 {w:qw}{b off:Nat}{zs:qi}(h:IS w (some (qR b off)) n cap zs):∀ j u,(zs.map (Value.int .i64))[j]?=some u->w.cell? (((qR b off):Addr).add j)=some u:=by
 intro j u hj;have hl:=h.1
 have hjl:j<n:=by
  by_cases e:j<n
  .exact e
  .rw [xO (by simp;omega)] at hj;simp at hj
 rw [bN,h.at j hjl];rw [<- hj];simp [xB,show j<zs.length by omega]
theorem aEd (w:qw):(w.alloc (.cells #[] 3)).ownsRow w.heap.size 3 1 (qS (qP w.heap.size) 0 0) 0 []:=
 ⟨rfl,.inr ⟨w.heap.size,0,#[],rfl,aN,heap_alloc_new w _,aN,xC _,rfl,rfl⟩⟩
theorem OI.bw {w w':qw}{zs:qi}(h:OI w base v zs)(hb:qY w w'):OI w' base v zs:=by
 refine ⟨?_,h.2⟩;obtain ⟨hl,h0|⟨g,cap,cur,hv,hg,hh,h1,h2,h3,h4⟩⟩:=h.1
 .exact ⟨hl,.inl h0⟩
 .refine ⟨hl,.inr ⟨g,cap,cur,hv,hg,?_,h1,h2,h3,h4⟩⟩;exact Blk.bw (w:=w) hh hb
theorem OI.mono {w:qw}{zs:qi}(h:OI w base v zs)(hb:base'<=base):OI w base' v zs:=by
 refine ⟨?_,h.2⟩;obtain ⟨hl,h0|⟨g,cap,cur,hv,hg,hh,h1,h2,h3,h4⟩⟩:=h.1
 .exact ⟨hl,.inl h0⟩
 .exact ⟨hl,.inr ⟨g,cap,cur,hv,by omega,hh,h1,h2,h3,h4⟩⟩
theorem OI.other {w:qw}{zs:qi}(h:OI w base v zs)(a:Addr)(u:Value)(ha:a.block<base):OI (w.setCell a u) base v zs:=by
 refine ⟨?_,h.2⟩;obtain ⟨hl,h0|⟨g,cap,cur,hv,hg,hh,h1,h2,h3,h4⟩⟩:=h.1
 .exact ⟨hl,.inl h0⟩
 .exact ⟨hl,.inr ⟨g,cap,cur,hv,hg,Blk.other (w:=w) hh a u (by omega),h1,h2,h3,h4⟩⟩
theorem OI.lt {w:qw}{zs:qi}(h:OI w base v zs):∀ k,v.ownBlock=some k->base<=k/\k<w.heap.size:=h.1.lt
theorem OI.is {w:qw}{zs:qi}(h:OI w base (qS a n cap) zs):IS w a n cap zs:=by
 obtain ⟨hl,⟨h0,h0'⟩|⟨g,cap',cur,hv,hg,hh,h1,h2,h3,h4⟩⟩:=h.1
 .simp at h0;obtain ⟨rfl,rfl,rfl⟩:=h0;exact ⟨h0',xC _,h.2,fun hn=>absurd rfl hn,aN⟩
 .simp at hv;obtain ⟨rfl,rfl,rfl⟩:=hv;refine ⟨rfl,by omega,h.2,fun hn=>⟨g,0,rfl,fun i hi=>?_⟩,h1⟩;rw [Nat.zero_add,Blk.cell (w:=w) hh]
  have:cur.toList[i]?=(zs.map (Value.int .i64))[i]?:=by
   rw [<- h4,List.getElem?_take,if_pos (by omega)]
  rw [Array.getElem?_toList] at this;rw [this];simp [xB,hi]
def RoomI (w:qw)(g n:Nat):Prop:=∃ cur,Blk w g cur 3/\n<=cur.size
theorem RoomI.cell {w:qw}(h:RoomI w g n)(i:Nat)(hi:i<n):∃ u,w.cell? (qR g i)=some u:=by
 obtain ⟨cur,hb,hn⟩:=h;rw [hb.cell];exact ⟨cur[i],by simp⟩
theorem RoomI.frozen {w:qw}(h:RoomI w g n)(i:Nat):w.frozen? (qR g i)=false:=by
 obtain ⟨cur,hb,hn⟩:=h;exact hb.frozen i
theorem aJ3 {w:qw}{zs:qi}(h:OI w base (qS (qP g) n cap) zs)(i:Nat)(hi:i<n)(z:Int)(hz:wfi z):OI (w.setCell (qR g i) (qI z)) base (qS (qP g) n cap) (zs.set i z):=by
 obtain ⟨⟨hl,h0|⟨g',cap',cur,hv,hg,hh,h1,h2,h3,h4⟩⟩,hr⟩:=h
 .simp at h0
 .simp at hv;obtain ⟨rfl,rfl,rfl⟩:=hv;refine ⟨⟨by simp,.inr ⟨g,cap,cur.setIfInBounds i (qI z),by simp,hg,Blk.set (w:=w) hh i _,by simpa using h1,h2,by simpa using h3,?_⟩⟩,?_⟩
  .rw [List.length_set,xW,List.take_set,h4,List.map_set]
  .intro y hy;rcases List.mem_or_eq_of_mem_set hy with hy|rfl
   .exact hr y hy
   .exact hz
theorem aGf {w:qw}{zs:qi}(h:OI w base (qS (qP g) n cap) zs):RoomI w g n:=by
 obtain ⟨⟨hl,h0|⟨g',cap',cur,hv,hg,hh,h1,h2,h3,h4⟩⟩,hr⟩:=h
 .simp at h0
 .simp at hv;obtain ⟨rfl,rfl,rfl⟩:=hv;exact ⟨cur,hh,by omega⟩
theorem aX {w w':qw}{zs:qi}(ht:Turn S w w')(h:OI w base v zs)(hk:∀ k,v.ownBlock=some k->¬ S k):OI w' base v zs:=by
 refine ⟨?_,h.2⟩;obtain ⟨hl,h0|⟨g',cap,cur,rfl,hg,hh,h1,h2,h3,h4⟩⟩:=h.1
 .exact ⟨hl,.inl h0⟩
 .exact ⟨hl,.inr ⟨g',cap,cur,rfl,hg,aF ht hh (hk g' rfl),h1,h2,h3,h4⟩⟩
def bE (k n:Nat):List Int:=(List.range n).map fun i=>((k+i:Nat):Int)
def gE (zs:qi)(k m:Nat):List Int:=(List.range zs.length).map fun i=>if i<m then ((k+i:Nat):Int) else zs.getD i 0
theorem aCt (zs:qi)(k:Nat):gE zs k 0=zs:=by
 apply List.ext_getElem
 .simp [gE]
 .intro i h1 h2;simp [gE,h2]
theorem aEq (zs:qi)(k:Nat):gE zs k zs.length=bE k zs.length:=by
 apply List.ext_getElem
 .simp [gE,bE]
 .intro i h1 h2;simp [bE] at h2;simp [gE,bE,h2]
theorem aEp (zs:qi)(k m:Nat)(h:m<zs.length):(gE zs k m).set m (((k+m:Nat):Int))=gE zs k (m+1):=by
 apply List.ext_getElem
 .simp [gE]
 .intro i h1 h2;simp only [gE,List.getElem_set,List.getElem_map,List.getElem_range];by_cases hik:m=i
  .subst hik;simp
  .by_cases h3:i<m
   .simp [hik,h3,show i<m+1 by omega]
   .simp [hik,h3,show ¬ i<m+1 by omega]
theorem vQ (g n cap base:Nat)(zs:qi)(k:Nat)(w:qw)(h:OI w base (qS (qP g) n cap) zs)(hn:n<=5000000)(hk:k<=20000000):
 qC 18 #[qS (qP g) n cap,qI k] w fun e w'=>e=.returned (qI ((k+n:Nat):Int))/\OI w' base (qS (qP g) n cap) (bE k n)/\Turn (fun j=>j=g) w w':=by
 have hl:=h.is.1;go_enter func18,ntmps18
 go_wp2;go_loopw [1,5] (fun x i wr=>∃ m:Nat,m<=n/\i=qI m/\x=qI ((k+m:Nat):Int)/\OI wr base (qS (qP g) n cap) (gE zs k m)/\Turn (fun j=>j=g) w wr) (fun _ i _=>n-(intOf i).toNat)
 .exact ⟨0,xC _,rfl,rfl,by rw [aCt];exact h,Turn.refl _ _⟩
 .obtain ⟨m,hm,rfl,rfl,hO,hT⟩:=hrel;by_cases hlt:m<n
  .have hlt':(m:Int)<(n:Int):=by omega
   obtain ⟨u,hu⟩:=(aGf hO).cell m hlt;have hf:=(aGf hO).frozen m;have hset:=aJ3 hO m hlt (((k+m:Nat):Int)) (by unfold wfi;omega);rw [aEp zs k m (by omega)] at hset
   have hT2:Turn (fun j=>j=g) w (wr.setCell (qR g m) (qI (((k+m:Nat):Int)))):=
    hT.trans ⟨rfl,rfl,rfl,by rw [aL];exact aN,fun j hj hs=>heap_setCell_other _ _ _ _ hs⟩
   have HO:=zh hset;have HT:=zh hT2;clear hset hT2 hO hT;obtain ⟨K,hK⟩:∃ K:Int,K=((k+m:Nat):Int):=⟨_,rfl⟩;have hK0:0<=K:=by omega
   have hK1:K<=67108864:=by omega
   have HK:=zh (show K+1=((k+(m+1):Nat):Int) by omega);rw [<- hK] at HO HT ⊢;clear hK;go_wp2
   go_roundw
   .exact ⟨m+1,by omega,by go_num,by rw [HK.o],HO.o,HT.o⟩
   .simp [intOf];omega
  .have e:Zh (m=n):=by show m=n;omega
   go_wp2;go_ret;exact ⟨aH (by rw [e.o]),by rw [e.o,<- hl,aEq] at hO;rw [hl] at hO;exact hO,hT⟩
theorem vP (a:qO)(cap k:Nat)(w:qw):
 qC 18 #[qS a 0 cap,qI k] w fun e w'=>e=.returned (qI k)/\w=w':=by
 go_enter func18,ntmps18
 go_wp2;go_loop [1,5] (fun x i=>i=qI 0/\x=qI k) (fun _ _=>0)
 .exact ⟨rfl,rfl⟩
 .obtain ⟨rfl,rfl⟩:=hrel;go_wp2;go_ret;exact ⟨rfl,rfl⟩
theorem fT (a:qO)(n cap base:Nat)(zs:qi)(k:Nat)(w:qw)(h:OI w base (qS a n cap) zs)(hn:n<=5000000:=by omega)(hk:k<=20000000:=by omega):
 qC 18 #[qS a n cap,qI k] w fun e w'=>e=.returned (qI ((k+n:Nat):Int))/\OI w' base (qS a n cap) (bE k n)/\Turn (fun j=>(qS a n cap).ownBlock=some j) w w':=by
 by_cases h0:n=0
 .subst h0;refine (vP a cap k w).mono fun e w' he=>?_;obtain ⟨rfl,rfl⟩:=he;have hz:zs=[]:=xE h.is.1;subst hz;exact ⟨rfl,h,Turn.refl _ _⟩
 .obtain ⟨g,rfl⟩:∃ g,a=some ⟨g,0,none⟩:=by
   obtain ⟨hl,⟨h0',_⟩|⟨g,cap',cur,hv,_⟩⟩:=h.1
   .simp at h0';exact absurd h0'.2.1 h0
   .simp at hv;exact ⟨g,hv.1⟩
  refine (vQ g n cap base zs k w h hn hk).mono fun e w' he=>⟨he.1,he.2.1,he.2.2.mono ?_⟩;intro j hj;subst hj;rfl
theorem aCx (k n m:Nat)(h:m<n):(bE k n).getD m 0=((k+m:Nat):Int):=by simp [bE,xB,h]
theorem fW (a:qO)(n cap:Nat)(k:Nat)(w:qw)(h:IS w a n cap (bE k n))(hn:n<=5000000:=by omega)(hk:k<=20000000:=by omega):
 qC 108 #[qS a n cap,qI k] w fun e w'=>e=.returned (qI ((k+n:Nat):Int))/\w=w':=by
 go_enter func108,ntmps108
 go_wp2;go_loop [1,5] (fun x i=>∃ m:Nat,m<=n/\i=qI m/\x=qI ((k+m:Nat):Int)) (fun _ i=>n-(intOf i).toNat)
 .exact ⟨0,xC _,rfl,rfl⟩
 .obtain ⟨m,hm,rfl,rfl⟩:=hrel;by_cases hlt:m<n
  .have hlt':(m:Int)<(n:Int):=by omega
   obtain ⟨b,off,rfl⟩:=h.addr (by omega);have hc:=h.at m hlt;rw [aCx k n m hlt] at hc;obtain ⟨K,hK⟩:∃ K:Int,K=((k+m:Nat):Int):=⟨_,rfl⟩;have hK0:0<=K:=by omega
   have hK1:K<=67108864:=by omega
   have HK:=zh (show K+1=((k+(m+1):Nat):Int) by omega);rw [<- hK] at hc ⊢;have hne:(K !=K)=false:=by simp
   clear hK;go_wp2
   go_round
   .exact ⟨m+1,by omega,by go_num,by rw [HK.o]⟩
   .simp [intOf];omega
  .have e:Zh (m=n):=by show m=n;omega
   go_wp2;go_ret;exact ⟨aH (by rw [e.o]),rfl⟩
theorem bZ (n:Int)(h₀:0<=n)(h₁:n<2^62):IntKind.i64.wrap n=n:=by
 rw [IntKind.wrap_i64];omega
theorem cC (v:Int)(w:qw):
 qC 190 #[qI v] w fun e w'=>e=.returned (.bool (decide (0<=v/\v<=4294967295)))/\w=w':=by
 go_enter func190,ntmps190
 go_wp2
 all_goals
  go_ret;refine ⟨aA ?_,rfl⟩;rw [xJ];simp;try omega
theorem cY (v m:Int)(w:qw):
 qC 155 #[qI v,qI m] w fun e w'=>e=.returned (.bool (decide (0<=v/\v<=m)))/\w=w':=by
 go_enter func155,ntmps155
 go_wp2
 all_goals
  go_ret;refine ⟨aA ?_,rfl⟩;rw [xJ];simp;try omega
def wds (zs:qi):Bool:=zs.all fun z=>decide (0<=z/\z<=4294967295)
theorem aFy (zs:qi)(k:Nat)(hk:k<zs.length)(h:¬ (0<=zs.getD k 0/\zs.getD k 0<=4294967295)):wds zs=false:=by
 unfold wds;rw [List.all_eq_false];refine ⟨zs[k],List.getElem_mem _,?_⟩;have:zs.getD k 0=zs[k]:=by simp [xB,hk]
 rw [this] at h;simpa using h
theorem aBv (zs:qi)(h:∀ j,j<zs.length->0<=zs.getD j 0/\zs.getD j 0<=4294967295):wds zs=true:=by
 unfold wds;rw [List.all_eq_true];intro z hz;obtain ⟨i,hi,rfl⟩:=List.getElem_of_mem hz;have:=h i hi;rw [show zs.getD i 0=zs[i] by simp [xB,hi]] at this;simpa using this
theorem pI (a:qO)(n cap:Nat)(zs:qi)(w:qw)(h:IS w a n cap zs):
 qC 224 #[qS a n cap] w fun e w'=>e=.returned (.bool (wds zs))/\w=w':=by
 have hl:=h.1;have hmx:=h.2.1;unfold maxLen at hmx;go_enter func224,ntmps224
 go_wp2_with fail
 go_loop [3] (fun i=>∃ k:Nat,k<=n/\i=qI k/\Hid (∀ j,j<k->0<=zs.getD j 0/\zs.getD j 0<=4294967295)) (fun i=>n-(intOf i).toNat)
 .exact ⟨0,xC _,rfl,zh (fun j hj=>by omega)⟩
 .obtain ⟨k,hk,rfl,HJ⟩:=hrel;by_cases hlt:k<n
  .have hlt':(k:Int)<(n:Int):=by omega
   obtain ⟨b,off,rfl⟩:=h.addr (by omega);have hck:=h.at k hlt;have HZ:=zh (aFy zs k (by omega))
   have HG:=zh (show 0<=zs.getD k 0/\zs.getD k 0<=4294967295->∀ j,j<k+1->0<=zs.getD j 0/\zs.getD j 0<=4294967295 from fun h j hj=>by
    by_cases e:j=k
    .subst e;exact h
    .exact HJ.out j (by omega))
   generalize zs.getD k 0=z at *;by_cases c1:z<0
   .go_wp2;go_ret;exact ⟨aA (HZ.o (by omega)).symm,rfl⟩
   .by_cases c2:4294967295<z
    .go_wp2;go_ret;exact ⟨aA (HZ.o (by omega)).symm,rfl⟩
    .go_wp2
     go_round
     .exact ⟨k+1,by omega,by go_num,zh (HG.o (by omega))⟩
     .simp [intOf];omega
  .have HE:=zh (aBv zs (fun j hj=>HJ.out j (by omega)));go_wp2;go_ret;exact ⟨aA HE.o.symm,rfl⟩
theorem nR (a:qO)(n cap:Nat)(zs:qi)(w:qw)(h:IS w a n cap zs):
 qC 246 #[qS a n cap] w fun e w'=>e=.returned (.bool (wds zs))/\w=w':=by
 have hl:=h.1;have hmx:=h.2.1;unfold maxLen at hmx;have HIW:=zh (fun v w=>cC v w);go_enter func246,ntmps246
 go_wp2_with fail
 go_loop [7] (fun i=>∃ k:Nat,k<=n/\i=qI k/\Hid (∀ j,j<k->0<=zs.getD j 0/\zs.getD j 0<=4294967295)) (fun i=>n-(intOf i).toNat)
 .exact ⟨0,xC _,rfl,zh (fun j hj=>by omega)⟩
 .obtain ⟨k,hk,rfl,HJ⟩:=hrel;by_cases hlt:k<n
  .have hlt':(k:Int)<(n:Int):=by omega
   obtain ⟨b,off,rfl⟩:=h.addr (by omega);have hck:=h.at k hlt;have HZ:=zh (aFy zs k (by omega))
   have HG:=zh (show 0<=zs.getD k 0/\zs.getD k 0<=4294967295->∀ j,j<k+1->0<=zs.getD j 0/\zs.getD j 0<=4294967295 from fun h j hj=>by
    by_cases e:j=k
    .subst e;exact h
    .exact HJ.out j (by omega))
   generalize zs.getD k 0=z at *;have HW:=zh (HIW.o z);by_cases c1:0<=z/\z<=4294967295
   .rw [xR c1] at HW;go_wp2_with (go_at_call 190;refine (HW.o _).mono ?_;rintro e w1 ⟨rfl,rfl⟩)
    go_round
    .exact ⟨k+1,by omega,by go_num,zh (HG.o c1)⟩
    .simp [intOf];omega
   .rw [xS c1] at HW;go_wp2_with (go_at_call 190;refine (HW.o _).mono ?_;rintro e w1 ⟨rfl,rfl⟩)
    go_ret;exact ⟨aA (HZ.o c1).symm,rfl⟩
  .have HE:=zh (aBv zs (fun j hj=>HJ.out j (by omega)));go_wp2;go_ret;exact ⟨aA HE.o.symm,rfl⟩
abbrev Bk:=qO×Nat×Nat×List Int
def zB:Bk:=(none,0,0,[])
def BKS (w:qw)(a:qO)(n cap:Nat)(bl:List Bk):Prop:=
 bl.length=n/\n<=maxLen/\(n≠0->∃ b off,a=some (qR b off)/\∀ i,i<n->w.cell? (qR b (off+i))=some (.slice (bl.getD i zB).1 (bl.getD i zB).2.1 (bl.getD i zB).2.2.1))/\(∀ i,i<n->IS w (bl.getD i zB).1 (bl.getD i zB).2.1 (bl.getD i zB).2.2.1 (bl.getD i zB).2.2.2)/\n<=cap
theorem BKS.bw {w w':qw}{bl:List Bk}(h:BKS w a n cap bl)(hb:qY w w'):BKS w' a n cap bl:=by
 obtain ⟨h1,h2,h3,h4,h5⟩:=h;refine ⟨h1,h2,fun hn=>?_,fun i hi=>(h4 i hi).bw hb,h5⟩;obtain ⟨b,off,e,hc⟩:=h3 hn;exact ⟨b,off,e,fun i hi=>(hb.cell (xD w _ (hc i hi))).trans (hc i hi)⟩
theorem BKS.addr {w:qw}{bl:List Bk}(h:BKS w a n cap bl)(hn:n≠0):∃ b off,a=some (qR b off):=by
 obtain ⟨b,off,e,_⟩:=h.2.2.1 hn;exact ⟨b,off,e⟩
theorem BKS.at {w:qw}{b off n cap:Nat}{bl:List Bk}(h:BKS w (some (qR b off)) n cap bl)(i:Nat)(hi:i<n):w.cell? (qR b (off+i))=some (.slice (bl.getD i zB).1 (bl.getD i zB).2.1 (bl.getD i zB).2.2.1):=by
 obtain ⟨b',off',e,hc⟩:=h.2.2.1 (by omega);simp at e;obtain ⟨rfl,rfl⟩:=e;exact hc i hi
def bko (b:Bk):Bool:=decide (1<=b.2.1/\b.2.1<=64)&&wds b.2.2.2
def cdo (tn:Nat)(tz:qi)(bn:Nat)(bl:List Bk):Bool:=decide (tn<=200/\bn<=4)&&(wds tz&&bl.all bko)
theorem aBr (bl:List Bk)(k:Nat)(hk:k<bl.length)(h:bko (bl.getD k zB)=false):bl.all bko=false:=by
 rw [List.all_eq_false];exact ⟨bl[k],List.getElem_mem _,by rw [show bl.getD k zB=bl[k] by simp [xB,hk]] at h;simp [h]⟩
theorem uS (bl:List Bk)(h:∀ j,j<bl.length->bko (bl.getD j zB)=true):bl.all bko=true:=by
 rw [List.all_eq_true];intro z hz;obtain ⟨i,hi,rfl⟩:=List.getElem_of_mem hz;have:=h i hi
 rwa [show bl.getD i zB=bl[i] by simp [xB,hi]] at this
theorem Blk.eight {w:qw}{a b c d e f x y:Value}{t:TypeId}(h:Blk w g #[a,b,c,d,e,f,x,y] t):
 w.cell? (qR g 0)=some a/\w.cell? (qR g 1)=some b/\w.cell? (qR g 2)=some c/\w.cell? (qR g 3)=some d/\w.cell? (qR g 4)=some e/\w.cell? (qR g 5)=some f/\w.cell? (qR g 6)=some x/\w.cell? (qR g 7)=some y:=
 ⟨by rw [h.cell];rfl,by rw [h.cell];rfl,by rw [h.cell];rfl,by rw [h.cell];rfl,by rw [h.cell];rfl,by rw [h.cell];rfl,by rw [h.cell];rfl,by rw [h.cell];rfl⟩
theorem aA0 (nm:ByteArray)(ta:qO)(tn tc:Nat)(tz:qi)(ba:qO)(bn bc:Nat)(bl:List Bk)(v3 v5 v6 v7:Value)(bss:Int)(w:qw)(ht:IS w ta tn tc tz)(hb:BKS w ba bn bc bl):
 qC 204 #[.agg #[.string nm,qS ta tn tc,qS ba bn bc,v3,qI bss,v5,v6,v7]] w (qB w (.bool (cdo tn tz bn bl))):=by
 obtain ⟨W,hW,hB0,kb⟩:=nwb w #[.string nm,qS ta tn tc,qS ba bn bc,v3,qI bss,v5,v6,v7] 138;obtain ⟨q0,q1,q2,q3,q4,q5,q6,q7⟩:=kb.eight;have HT:=zh (fun w h=>pI ta tn tc tz w h);obtain ⟨r,hr⟩:=eqx (cdo tn tz bn bl);rw [<- hr];unfold cdo at hr;have ht0:=ht.bw hB0;have hb0:=hb.bw hB0;have hm1:=ht.2.1;have hm2:=hb.2.1;unfold maxLen at hm1 hm2;have HW:=zh hW;clear hW;by_cases c1:200<tn
 .have HR:=zh (show r=false by rw [hr,xS (by omega)];rfl);clear hr;have c1':(200:Int)<(tn:Int):=by omega
  go_enter func204,ntmps204
  go_wp2_with (rw [<- HW.o])
  go_ret;exact ⟨aA HR.o.symm,hB0⟩
 .have c1':¬ (200:Int)<(tn:Int):=by omega
  by_cases c2:4<bn
  .have HR:=zh (show r=false by rw [hr,xS (by omega)];rfl);clear hr;have c2':(4:Int)<(bn:Int):=by omega
   go_enter func204,ntmps204
   go_wp2_with (rw [<- HW.o])
   go_ret;exact ⟨aA HR.o.symm,hB0⟩
  .have c2':¬ (4:Int)<(bn:Int):=by omega
   cases hz:wds tz
   .rw [hz] at HT;have HR:=zh (show r=false by rw [hr,hz];simp);clear hr;go_enter func204,ntmps204
    go_wp2_with (first|(rw [<- HW.o])|(go_at_call 224;refine (HT.o _ ht0).mono ?_;rintro e w1 ⟨rfl,rfl⟩))
    go_ret;exact ⟨aA HR.o.symm,hB0⟩
   .rw [hz] at HT;have hr':r=bl.all bko:=by rw [hr,hz,xR (by omega)];simp
    have HR:=zh hr';clear hr hr';have hl:=hb.1;go_enter func204,ntmps204
    go_wp2_with (first|(rw [<- HW.o])|(go_at_call 224;refine (HT.o _ ht0).mono ?_;rintro e w1 ⟨rfl,rfl⟩))
    go_loop [3] (fun i=>∃ k:Nat,k<=bn/\i=qI k/\Hid (∀ j,j<k->bko (bl.getD j zB)=true)) (fun i=>bn-(intOf i).toNat)
    .exact ⟨0,xC _,rfl,zh (fun j hj=>by omega)⟩
    .obtain ⟨k,hk,rfl,HJ⟩:=hrel;by_cases hlt:k<bn
     .have hlt':(k:Int)<(bn:Int):=by omega
      obtain ⟨bb,off,rfl⟩:=hb0.addr (by omega);have hck:=hb0.at k hlt;have hik:=hb0.2.2.2.1 k hlt;have HZ:=zh (aBr bl k (by omega))
      have HG:=zh (show bko (bl.getD k zB)=true->∀ j,j<k+1->bko (bl.getD j zB)=true from fun h j hj=>by
       by_cases e:j=k
       .subst e;exact h
       .exact HJ.out j (by omega))
      generalize bl.getD k zB=B at *;obtain ⟨xa,xn,xc,xz⟩:=B;dsimp only at hck hik;have hxm:=hik.2.1;unfold maxLen at hxm;have HX:=zh (fun w h=>pI xa xn xc xz w h);by_cases d1:xn<1
      .have d1':(xn:Int)<1:=by omega
       go_wp2;go_ret;exact ⟨aA (by rw [HR.o];exact (HZ.o (by unfold bko;dsimp only;rw [decide_eq_false (by omega)];rfl)).symm),hB0⟩
      .have d1':¬ (xn:Int)<1:=by omega
       by_cases d2:64<xn
       .have d2':(64:Int)<(xn:Int):=by omega
        go_wp2;go_ret;exact ⟨aA (by rw [HR.o];exact (HZ.o (by unfold bko;dsimp only;rw [decide_eq_false (by omega)];rfl)).symm),hB0⟩
       .have d2':¬ (64:Int)<(xn:Int):=by omega
        cases hx:wds xz
        .rw [hx] at HX;go_wp2_with (go_at_call 224;refine (HX.o _ hik).mono ?_;rintro e w1 ⟨rfl,rfl⟩)
         go_ret;exact ⟨aA (by rw [HR.o];exact (HZ.o (by unfold bko;dsimp only;rw [hx];simp)).symm),hB0⟩
        .rw [hx] at HX;go_wp2_with (go_at_call 224;refine (HX.o _ hik).mono ?_;rintro e w1 ⟨rfl,rfl⟩)
         go_round
         .exact ⟨k+1,by omega,by go_num,zh (HG.o (by unfold bko;dsimp only;rw [hx,decide_eq_true (by omega)];rfl))⟩
         .simp [intOf];omega
     .have HE:=zh (uS bl (fun j hj=>HJ.out j (by omega)));go_wp2;go_ret;exact ⟨aA (by rw [HR.o];exact HE.o.symm),hB0⟩
theorem aFl (nm:ByteArray)(ta:qO)(tn tc:Nat)(tz:qi)(ba:qO)(bn bc:Nat)(bl:List Bk)(v3 v5 v6 v7:Value)(bss:Int)(w:qw)(ht:IS w ta tn tc tz)(hb:BKS w ba bn bc bl):
 qC 227 #[.agg #[.string nm,qS ta tn tc,qS ba bn bc,v3,qI bss,v5,v6,v7]] w (qB w (.bool (cdo tn tz bn bl))):=by
 obtain ⟨W,hW,hB0,kb⟩:=nwb w #[.string nm,qS ta tn tc,qS ba bn bc,v3,qI bss,v5,v6,v7] 138;obtain ⟨q0,q1,q2,q3,q4,q5,q6,q7⟩:=kb.eight;have HT:=zh (fun w h=>nR ta tn tc tz w h);obtain ⟨r,hr⟩:=eqx (cdo tn tz bn bl);rw [<- hr];unfold cdo at hr;have ht0:=ht.bw hB0;have hb0:=hb.bw hB0;have hm1:=ht.2.1;have hm2:=hb.2.1;unfold maxLen at hm1 hm2;have HW:=zh hW;clear hW;by_cases c1:200<tn
 .have HR:=zh (show r=false by rw [hr,xS (by omega)];rfl);clear hr;have c1':(200:Int)<(tn:Int):=by omega
  go_enter func227,ntmps227
  go_wp2_with (rw [<- HW.o])
  go_ret;exact ⟨aA HR.o.symm,hB0⟩
 .have c1':¬ (200:Int)<(tn:Int):=by omega
  by_cases c2:4<bn
  .have HR:=zh (show r=false by rw [hr,xS (by omega)];rfl);clear hr;have c2':(4:Int)<(bn:Int):=by omega
   go_enter func227,ntmps227
   go_wp2_with (rw [<- HW.o])
   go_ret;exact ⟨aA HR.o.symm,hB0⟩
  .have c2':¬ (4:Int)<(bn:Int):=by omega
   cases hz:wds tz
   .rw [hz] at HT;have HR:=zh (show r=false by rw [hr,hz];simp);clear hr;go_enter func227,ntmps227
    go_wp2_with (first|(rw [<- HW.o])|(go_at_call 246;refine (HT.o _ ht0).mono ?_;rintro e w1 ⟨rfl,rfl⟩))
    go_ret;exact ⟨aA HR.o.symm,hB0⟩
   .rw [hz] at HT;have hr':r=bl.all bko:=by rw [hr,hz,xR (by omega)];simp
    have HR:=zh hr';clear hr hr';have hl:=hb.1;go_enter func227,ntmps227
    go_wp2_with (first|(rw [<- HW.o])|(go_at_call 246;refine (HT.o _ ht0).mono ?_;rintro e w1 ⟨rfl,rfl⟩))
    go_loop [24] (fun i=>∃ k:Nat,k<=bn/\i=qI k/\Hid (∀ j,j<k->bko (bl.getD j zB)=true)) (fun i=>bn-(intOf i).toNat)
    .exact ⟨0,xC _,rfl,zh (fun j hj=>by omega)⟩
    .obtain ⟨k,hk,rfl,HJ⟩:=hrel;by_cases hlt:k<bn
     .have hlt':(k:Int)<(bn:Int):=by omega
      obtain ⟨bb,off,rfl⟩:=hb0.addr (by omega);have hck:=hb0.at k hlt;have hik:=hb0.2.2.2.1 k hlt;have HZ:=zh (aBr bl k (by omega))
      have HG:=zh (show bko (bl.getD k zB)=true->∀ j,j<k+1->bko (bl.getD j zB)=true from fun h j hj=>by
       by_cases e:j=k
       .subst e;exact h
       .exact HJ.out j (by omega))
      generalize bl.getD k zB=B at *;obtain ⟨xa,xn,xc,xz⟩:=B;dsimp only at hck hik;have hxm:=hik.2.1;unfold maxLen at hxm;have HX:=zh (fun w h=>nR xa xn xc xz w h);by_cases d1:xn<1
      .have d1':(xn:Int)<1:=by omega
       go_wp2;go_ret;exact ⟨aA (by rw [HR.o];exact (HZ.o (by unfold bko;dsimp only;rw [decide_eq_false (by omega)];rfl)).symm),hB0⟩
      .have d1':¬ (xn:Int)<1:=by omega
       by_cases d2:64<xn
       .have d2':(64:Int)<(xn:Int):=by omega
        go_wp2;go_ret;exact ⟨aA (by rw [HR.o];exact (HZ.o (by unfold bko;dsimp only;rw [decide_eq_false (by omega)];rfl)).symm),hB0⟩
       .have d2':¬ (64:Int)<(xn:Int):=by omega
        cases hx:wds xz
        .rw [hx] at HX;go_wp2_with (go_at_call 246;refine (HX.o _ hik).mono ?_;rintro e w1 ⟨rfl,rfl⟩)
         go_ret;exact ⟨aA (by rw [HR.o];exact (HZ.o (by unfold bko;dsimp only;rw [hx];simp)).symm),hB0⟩
        .rw [hx] at HX;go_wp2_with (go_at_call 246;refine (HX.o _ hik).mono ?_;rintro e w1 ⟨rfl,rfl⟩)
         go_round
         .exact ⟨k+1,by omega,by go_num,zh (HG.o (by unfold bko;dsimp only;rw [hx,decide_eq_true (by omega)];rfl))⟩
         .simp [intOf];omega
     .have HE:=zh (uS bl (fun j hj=>HJ.out j (by omega)));go_wp2;go_ret;exact ⟨aA (by rw [HR.o];exact HE.o.symm),hB0⟩
