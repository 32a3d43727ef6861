import Derived.Test.YtcimaholejajpaaGreatF12
import Derived.Test.YtcimaholejajpaaGreatF16
import Derived.Test.YtcimaholejajpaaGreatF17
set_option linter.all false
set_option maxHeartbeats 1000000
namespace Go.Proofs.YtcimaholejajpaaGreat
open Go.RowKit
open Go.Proofs.Tryz
set_option maxRecDepth 100000
variable {P:PMod}{W W' w:World}{X zs:List Int}{a:qO}{ac:Act}{base c g k k' m n r:Nat}{cs:Array Value}{o:Oper}{row:Option Nat}{v v':Value}{xs:List Value}
theorem aHf (zs:qi)(k:Nat)(hz:∀ j,0<=zs.getD j 0/\zs.getD j 0<=255):
 ∃ (o d x i:Int) (k':Nat),(-1<=o/\o<=64/\-1<=d/\d<=10/\-1<=x/\x<=10/\-1<=i/\i<=65536)/\∀ (r:Nat) (a:qO) (n c:Nat) (w:qw) (h:Rdr w r a n c zs k) (hcode:n≠0->∀ b off,a=some (qR b off)->b<w.heap.size),qC 169 #[.pointer (qP r)] w (dQ w r a n c zs o d x i k'):=by
 obtain ⟨v1,E1,z0,z0'⟩:=aR hz k;obtain ⟨op,ho1,ho2,hop⟩:=aGs (v1%25).toNat (by omega);have HOP:=zh hop;clear hop;refine ⟨op,?_⟩;by_cases hu3:us op=3
 .exact aHd zs k hz v1 E1 z0 z0' op ho1 ho2 hu3 HOP
 by_cases hu0:us op=0
 .exact aHe zs k hz v1 E1 z0 z0' op ho1 ho2 hu0 HOP
 rcases aAi op with h'|h'|rfl|rfl|rfl|rfl|rfl|rfl|rfl|rfl|rfl|rfl|rfl|rfl|rfl|rfl|rfl|rfl|rfl|rfl|rfl|rfl|rfl|rfl|rfl|rfl|rfl
 .omega
 .omega
 .exact absurd (by decide) hu0
 .exact aKf zs k hz v1 E1 z0 z0' HOP
 .exact aKe zs k hz v1 E1 z0 z0' HOP
 .exact absurd (by decide) hu3
 .exact absurd (by decide) hu3
 .exact aKd zs k hz v1 E1 z0 z0' HOP
 .exact absurd (by decide) hu3
 .exact absurd (by decide) hu3
 .exact absurd (by decide) hu3
 .exact absurd (by decide) hu3
 .exact absurd (by decide) hu3
 .exact absurd (by decide) hu3
 .exact absurd (by decide) hu3
 .exact aHq zs k hz v1 E1 z0 z0' HOP
 .exact aHp zs k hz v1 E1 z0 z0' HOP
 .exact aHo zs k hz v1 E1 z0 z0' HOP
 .exact aHn zs k hz v1 E1 z0 z0' HOP
 .exact aHm zs k hz v1 E1 z0 z0' HOP
 .exact aHl zs k hz v1 E1 z0 z0' HOP
 .exact aHk zs k hz v1 E1 z0 z0' HOP
 .exact aHj zs k hz v1 E1 z0 z0' HOP
 .exact aHi zs k hz v1 E1 z0 z0' HOP
 .exact aHh zs k hz v1 E1 z0 z0' HOP
 .exact aHg zs k hz v1 E1 z0 z0' HOP
 .exact absurd (by decide) hu0
structure Dst (w W:qw)(r:Nat)(a:qO)(n c:Nat)(zs:qi)(k:Nat):Prop where
 rd:Rdr W r a n c zs k
 t:Turn (fun j=>j=r) w W
 lt:r<w.heap.size
 code:n≠0->∀ b off,a=some (qR b off)->b<w.heap.size
theorem Dst.grow {w W W':qw}{zs:qi}(h:Dst w W r a n c zs k)(ht:Turn (fun j=>w.heap.size<=j) W W'):Dst w W' r a n c zs k:=
 ⟨⟨aA ht h.rd.blk (by have:=h.lt;omega),pO ht h.rd.bs (fun hn j hj b off e=>by have:=h.code hn b off e;omega),h.rd.small,h.rd.far⟩,⟨ht.os.trans h.t.os,ht.tape.trans h.t.tape,ht.output.trans h.t.output,xM h.t.size ht.size,fun j hj hs=>(ht.block j (Nat.lt_of_lt_of_le hj h.t.size) (by omega)).trans (h.t.block j hj hs)⟩,h.lt,h.code⟩
theorem Dst.sz {w W:qw}{zs:qi}(h:Dst w W r a n c zs k):w.heap.size<=W.heap.size:=h.t.size
theorem Dst.bw {w W W':qw}{zs:qi}(h:Dst w W r a n c zs k)(hb:qY W W'):Dst w W' r a n c zs k:=h.grow (aJ hb)
theorem Dst.grown {w W W':qw}{zs:qi}(h:Dst w W r a n c zs k)(hg:W.grownBy W' row)(hr:∀ j,row=some j->w.heap.size<=j):Dst w W' r a n c zs k:=
 h.grow ⟨hg.os,hg.tape,hg.output,hg.size,fun j hj hs=>hg.block j hj (fun e=>by have:=hr j e.symm;omega)⟩
theorem Dst.set {w W:qw}{zs:qi}(h:Dst w W r a n c zs k)(hg:w.heap.size<=g)(i:Nat)(v:Value):Dst w (W.setCell (qR g i) v) r a n c zs k:=h.grow ((aC W g i v).mono (fun j hj=>by subst hj;exact hg))
theorem Dst.trans {w W W':qw}{zs:qi}(h:Dst w W r a n c zs k)(h':Dst W W' r a n c zs k'):Dst w W' r a n c zs k':=⟨h'.rd,h.t.trans h'.t,h.lt,h.code⟩
theorem Dst.new {W:qw}{zs:qi}(rd:Rdr W r a n c zs k)(code:n≠0->∀ b off,a=some (qR b off)->b<W.heap.size):Dst W W r a n c zs k:=⟨rd,Turn.refl _ _,rd.blk.lt,code⟩
theorem Dst.fresh {w W:qw}{zs:qi}(h:Dst w W r a n c zs k):Dst W W r a n c zs k:=Dst.new h.rd (fun hn b off e=>by have:=h.code hn b off e;have:=h.sz;omega)
theorem Dst.next {w W:qw}{zs:qi}(h:Dst w W r a n c zs k)(x:Int)(hx:Hid (zs.getD k 0=x)):
 qC 10 #[.pointer (qP r)] W fun e w'=>e=.returned (qI x)/\Dst w w' r a n c zs (k+1)/\Turn (fun j=>j=r) W w':=
 (aK r a n c zs k x W h.rd hx).mono fun e w' ⟨he,hr,ht⟩=>⟨he,⟨hr,h.t.trans ht,h.lt,h.code⟩,ht⟩
theorem aJy (v:Int):(v.tmod 65536+65536).tmod 65536=v%65536:=by
 have hlt:-65536<v.tmod 65536:=Int.lt_tmod_of_pos v (by omega);rw [xL (by omega)];have h:v.tmod 65536=v-65536*v.tdiv 65536:=by have:=Int.tmod_add_mul_tdiv v 65536;omega
 omega
theorem aFd (v:Int)(w:qw)(hv:-9223372036854775808<=v/\v<=9223372036854775807):
 qC 75 #[qI v,qI 65536] w fun e w'=>e=.returned (qI (v%65536))/\w=w':=by
 have hlt:-65536<v.tmod 65536:=Int.lt_tmod_of_pos v (by omega);have hgt:v.tmod 65536<65536:=Int.tmod_lt_of_pos v (by omega);have HM:=zh (aJy v);go_enter func75,ntmps75
 go_wp2;go_ret;exact ⟨aQ (by have:=HM.o;rwa [xL (by omega)] at this),rfl⟩
def opW (o d x i:Int):Int:=aCs o d x (i%65536)
theorem aD6 (op d a i:Int):0<=aCs op d a i/\aCs op d a i<=4294967295:=by
 unfold aCs;cases h:okI op d a i
 .simp
 .obtain ⟨h1,h2,h3,h4,h5,h6,h7,h8⟩:=rJ h;simp only [if_true,enc];omega
theorem oZ (o d x i:Int):0<=opW o d x i/\opW o d x i<=4294967295:=aD6 _ _ _ _
theorem aHc (o d x i:Int)(w:qw)(hv:-9223372036854775808<=i/\i<=9223372036854775807):
 qC 37 (qW o d x i) w (qB w (qI (opW o d x i))):=by
 go_enter func37,ntmps37
 go_wp2_with fail
 refine (aFd i _ hv).mono ?_;rintro e w1 ⟨rfl,rfl⟩;go_wp2_with fail
 refine (oA o d x (i%65536) _).mono ?_;rintro e w2 ⟨rfl,hb2⟩;go_wp2;go_ret;exact ⟨rfl,hb2⟩
theorem bD (o d x i:Int)(w:qw)(o' d' x' i':Int)(h1:o=o')(h2:d=d')(h3:x=x')(h4:i=i')(hv:-1048576<=i'/\i'<=1048576):
 qC 37 (qW o d x i) w (qB w (qI (opW o' d' x' i'))):=by
 subst h1 h2 h3 h4;exact aHc o d x i w (by omega)
def aOb (zs:qi)(k:Nat)(v:Int)(k':Nat):Prop:=∀ (w W:qw) (r:Nat) (a:qO) (n c:Nat) (h:Dst w W r a n c zs k),qC 163 #[.pointer (qP r)] W fun e w'=>e=.returned (qI v)/\Dst w w' r a n c zs k'/\Turn (fun j=>j=r) W w'
theorem aL5 (zs:qi)(k:Nat)(hz:∀ j,0<=zs.getD j 0/\zs.getD j 0<=255):∃ (v:Int) (k':Nat),(0<=v/\v<=4294967295)/\aOb zs k v k':=by
 obtain ⟨o,d,x,i,k',hb,hc⟩:=aHf zs k hz;refine ⟨aCs o d x i,k',aD6 o d x i,fun w W r a n c h=>?_⟩;have HC:=zh (hc r a n c W h.rd h.fresh.code);have H:=zh h;clear hc hz h;go_enter func163,ntmps163
 go_wp2_with fail
 refine HC.o.mono ?_;rintro e w1 ⟨rfl,hr1,t1⟩;go_wp2_with fail
 refine (oA o d x i _).mono ?_;rintro e w2 ⟨rfl,hb2⟩;go_wp2;go_ret;have t2:=t1.trans (aJ hb2);exact ⟨rfl,⟨aH hr1 hb2,H.o.t.trans t2,H.o.lt,H.o.code⟩,t2⟩
structure Dl (w W:qw)(r:Nat)(a:qO)(n c:Nat)(zs:qi)(k:Nat)(v:Value)(xs:qi):Prop where
 d:Dst w W r a n c zs k
 o:OG 3 1 clI W w.heap.size v xs
theorem Dl.bw {w W W':qw}{zs:qi}{xs:qi}(h:Dl w W r a n c zs k v xs)(hb:qY W W'):Dl w W' r a n c zs k v xs:=⟨h.d.bw hb,h.o.bw hb⟩
theorem Dl.app {w W:qw}{zs:qi}{xs X:qi}{K:Act->World->Prop}{Q:Exit->Act->World->Prop}(hE:Dl w W r a n c zs k v xs)(s x:Operand)
 (ho:o.op=.call { callee:=.builtin .append,args:=#[s,x],argTypes:=#[29,29] }) (hs:ac.eval s=v) (ad:Addr) (m cp:Nat) (hx:ac.eval x=qS (some ad) m cp) (hX:X.length=m) (hnews:∀ j u,(X.flatMap clI)[j]?=some u->W.cell? (ad.add j)=some u) (hn:xs.length+m<=40000)
 (h:∀ v' w',Dl w w' r a n c zs k v' (xs++X)->K (ac.put o.dst v') w'):o.wp prog ac W K Q:=by
 obtain ⟨i0,hi,hz0,hz1,hz2⟩:=info_parts gG;have hl:(X.flatMap clI).length=m:=by rw [mM,xH,hX]
 refine wp_append_own W s x 29 ho w.heap.size 3 i0 (qI 0) 1 8 underlying29 hi hz0 hz1 hz2 rfl (by decide) v xs.length (xs.flatMap clI) hs hE.o ad m cp (X.flatMap clI) hx (by rw [hl,Nat.mul_one]) hnews (by intro u hu;rw [mM,List.mem_map] at hu;obtain ⟨z,_,rfl⟩:=hu;rfl) (by unfold maxLen;omega) (by omega) hE.d.sz ?_;intro v' w' hown hg _;refine h v' w' ⟨hE.d.grown hg (fun j hj=>(hE.o.lt j hj).1),?_⟩;unfold OG;rw [xI,hX,xU];exact hown
theorem dD {ops:Array Oper}{rest:List Oper}{w W:qw}{zs:qi}{xs X:qi}{Q:Exit->Act->World->Prop}(hE:Dl w W r a n c zs k v xs)(hgd:o.guard=none)(s x:Operand)
 (ho:o.op=.call { callee:=.builtin .append,args:=#[s,x],argTypes:=#[29,29] }) (hs:ac.eval s=v) (ad:Addr) (m cp:Nat) (hx:ac.eval x=qS (some ad) m cp) (hX:X.length=m) (hnews:∀ j u,(X.flatMap clI)[j]?=some u->W.cell? (ad.add j)=some u) (hn:xs.length+m<=40000)
 (h:∀ v' w',Dl w w' r a n c zs k v' (xs++X)->wpList prog ops Q rest (ac.put o.dst v') w'):wpList prog ops Q (o::rest) ac W:=
 wpList_plain hgd fun _ hK=>hE.app s x ho hs ad m cp hx hX hnews hn fun v' w' e=>hK _ _ (h v' w' e)
theorem rK {α:Type}(t:TypeId)(sz:Nat)(f:α->List Value)(W:World)(base:Nat)(hb:base<=W.heap.size)(xs:List α)(cs:Array Value)(hcs:cs=(xs.flatMap f).toArray)(hl:(xs.flatMap f).length=xs.length*sz)(hm:xs.length<=maxLen):OG t sz f (W.alloc (.cells cs t)) base (.slice (some ⟨W.heap.size,0,none⟩) xs.length xs.length) xs:=by
 subst hcs;exact ⟨hl,.inr ⟨W.heap.size,xs.length,_,rfl,hb,heap_alloc_new W _,Nat.le_refl _,hm,by rw [List.size_toArray];exact hl,by rw [<- hl];exact List.take_length⟩⟩
theorem aX {base' n' sz sz':Nat}{t t':TypeId}{xs':List Value}(h:W.ownsRow base t sz v n xs)(h':W.ownsRow base' t' sz' v' n' xs')(hne:t≠t'):v.ownBlock=none\/v.ownBlock≠v'.ownBlock:=by
 cases e:v.ownBlock with
 | none=>exact .inl rfl
 | some j=>
   refine .inr (fun e'=>?_);obtain ⟨c1,k1⟩:=aM h e;obtain ⟨c2,k2⟩:=aM h' e'.symm;exact hne (aW k1 k2)
theorem aDm (h:∀ k,v.ownBlock=some k->v'.ownBlock≠some k):v'.ownBlock=none\/v'.ownBlock≠v.ownBlock:=by
 cases e:v'.ownBlock with
 | none=>exact .inl rfl
 | some j=>exact .inr (fun e'=>h j e'.symm e)
theorem aGz (h:∀ k,v.ownBlock=some k->v'.ownBlock≠some k):v.ownBlock=none\/v.ownBlock≠v'.ownBlock:=by
 cases e:v.ownBlock with
 | none=>exact .inl rfl
 | some j=>exact .inr (fun e'=>h j e e'.symm)
theorem OBk.grown {bl:List Bk}(h:OBk W base v bl)(hg:W.grownBy W' row)(h1:v.ownBlock=none\/v.ownBlock≠row)(h2:∀ B∈bl,(Value.slice B.1 B.2.1 B.2.2.1).ownBlock=none\/(Value.slice B.1 B.2.1 B.2.2.1).ownBlock≠row):OBk W' base v bl:=
 ⟨World.ownsRow.kept h.head hg h1,fun B hB=>⟨(h.rows B hB).1,(h.rows B hB).2.grown hg (h2 B hB)⟩,h.apart⟩
theorem OB.grown' (h:OB W base v zs)(hg:W.grownBy W' row)(hk:v.ownBlock=none\/v.ownBlock≠row):OB W' base v zs:=⟨World.ownsRow.kept h.1 hg hk,h.2⟩
structure Ma where
 a1:Option Addr
 c1:Nat
 a2:Option Addr
 c2:Nat
 bl:List Bk
 a3:Option Addr
 c3:Nat
 a5:Option Addr
 c5:Nat
 a6:Option Addr
 c6:Nat
 a7:Option Addr
 c7:Nat
abbrev MO (W:World)(base:Nat)(P:PMod)(M:Ma):Prop:=ModO W base P M.a1 M.c1 M.a2 M.c2 M.bl M.a3 M.c3 M.a5 M.c5 M.a6 M.c6 M.a7 M.c7
theorem MO.grow_r {M:Ma}(h:MO W base P M)(hm:X.length=m)(O:OG 3 1 clI W' base (.slice (some ⟨g,0,none⟩) (P.rz.length+m) c) (P.rz++X))(hg:W.grownBy W' (Value.slice M.a5 P.rz.length M.c5).ownBlock)(hat:(Value.slice M.a5 P.rz.length M.c5).ownBlock=some g\/g=W.heap.size):
 MO W' base { P with rz:=P.rz++X } { M with a5:=some ⟨g,0,none⟩,c5:=c } where
 t:=h.t.grown hg (aGz h.tr)
 b:=h.b.grown hg (aX h.b.head h.r (by decide)) (fun B hB=>aDm (fun k hk=>h.br k hk B hB))
 bls:=h.bls
 d:=h.d.grown' hg (aX h.d.1 h.r (by decide))
 r:=by rw [List.length_append,hm];exact O
 i:=h.i.grown hg (aX h.i h.r (by decide))
 e:=h.e.grown hg (aX h.e h.r (by decide))
 tb:=h.tb
 tr:=fun k hk e=>by
  have e':some g=some k:=e;injection e' with e'
  subst e';rcases hat with e2|e2
  .exact h.tr _ hk e2
  .have:=(h.t.lt _ hk).2;omega
 br:=fun k hk B hB e=>by
  have e':some g=some k:=hk;injection e' with e'
  subst e';rcases hat with e2|e2
  .exact h.br _ e2 B hB e
  .have:=((h.b.rows B hB).2.lt _ e).2;omega
theorem MO.grow_i {M:Ma}{X:List ByteArray}(h:MO W base P M)(hm:X.length=m)(O:OG 9 1 clT W' base (.slice (some ⟨g,0,none⟩) (P.ss.length+m) c) (P.ss++X))(hg:W.grownBy W' (Value.slice M.a6 P.ss.length M.c6).ownBlock):
 MO W' base { P with ss:=P.ss++X } { M with a6:=some ⟨g,0,none⟩,c6:=c } where
 t:=h.t.grown hg (aX h.t h.i (by decide))
 b:=h.b.grown hg (aX h.b.head h.i (by decide)) (fun B hB=>aX (h.b.rows B hB).2 h.i (by decide))
 bls:=h.bls
 d:=h.d.grown' hg (aX h.d.1 h.i (by decide))
 r:=h.r.grown hg (aX h.r h.i (by decide))
 i:=by rw [List.length_append,hm];exact O
 e:=h.e.grown hg (aX h.e h.i (by decide))
 tb:=h.tb
 tr:=h.tr
 br:=h.br
theorem MO.grow_e {M:Ma}{X:List Ex}(h:MO W base P M)(hm:X.length=m)(O:OG 91 3 clX W' base (.slice (some ⟨g,0,none⟩) (P.es.length+m) c) (P.es++X))(hg:W.grownBy W' (Value.slice M.a7 P.es.length M.c7).ownBlock):
 MO W' base { P with es:=P.es++X } { M with a7:=some ⟨g,0,none⟩,c7:=c } where
 t:=h.t.grown hg (aX h.t h.e (by decide))
 b:=h.b.grown hg (aX h.b.head h.e (by decide)) (fun B hB=>aX (h.b.rows B hB).2 h.e (by decide))
 bls:=h.bls
 d:=h.d.grown' hg (aX h.d.1 h.e (by decide))
 r:=h.r.grown hg (aX h.r h.e (by decide))
 i:=h.i.grown hg (aX h.i h.e (by decide))
 e:=by rw [List.length_append,hm];exact O
 tb:=h.tb
 tr:=h.tr
 br:=h.br
theorem MO.grow_d {M:Ma}(h:MO W base P M)(hm:X.length=m)(O:OB W' base (.slice (some ⟨g,0,none⟩) (P.dz.length+m) c) (P.dz++X))(hg:W.grownBy W' (Value.slice M.a3 P.dz.length M.c3).ownBlock):
 MO W' base { P with dz:=P.dz++X } { M with a3:=some ⟨g,0,none⟩,c3:=c } where
 t:=h.t.grown hg (aX h.t h.d.1 (by decide))
 b:=h.b.grown hg (aX h.b.head h.d.1 (by decide)) (fun B hB=>aX (h.b.rows B hB).2 h.d.1 (by decide))
 bls:=h.bls
 d:=by rw [List.length_append,hm];exact O
 r:=h.r.grown hg (aX h.r h.d.1 (by decide))
 i:=h.i.grown hg (aX h.i h.d.1 (by decide))
 e:=h.e.grown hg (aX h.e h.d.1 (by decide))
 tb:=h.tb
 tr:=h.tr
 br:=h.br
theorem MO.grow_b {lo:Nat}{M:Ma}{A:Option Addr}{C:Nat}{x:List Int}{v':Value}(h:MO W base P M)(hx:OG 3 1 clI W lo (.slice A x.length C) x)(hb:base<=lo)(hlo:∀ B∈M.bl,∀ j,(Value.slice B.1 B.2.1 B.2.2.1).ownBlock=some j->j<lo)(ht:∀ j,(Value.slice M.a1 P.tz.length M.c1).ownBlock=some j->j<lo)(hr:∀ j,(Value.slice M.a5 P.rz.length M.c5).ownBlock=some j->j<lo)
 (hown:W'.ownsRow base 29 1 (.slice (some ⟨g,0,none⟩) (M.bl.length+1) c) (M.bl.length+1) (M.bl.map (fun B=>Value.slice B.1 B.2.1 B.2.2.1)++[.slice A x.length C])) (hg:W.grownBy W' (Value.slice M.a2 M.bl.length M.c2).ownBlock):
 MO W' base { P with bl:=P.bl++[x] } { M with a2:=some ⟨g,0,none⟩,c2:=c,bl:=M.bl++[(A,x.length,C,x)] } where
 t:=h.t.grown hg (aX h.t h.b.head (by decide))
 b:=by
  have:=h.b.push (lo:=lo) rfl hx hb hlo hown hg;show OBk W' base (.slice (some ⟨g,0,none⟩) (M.bl++[((A,x.length,C,x):Bk)]).length c) (M.bl++[(A,x.length,C,x)]);rw [List.length_append];exact this
 bls:=by
  show (M.bl++[((A,x.length,C,x):Bk)]).map (fun B=>B.2.2.2)=P.bl++[x];rw [List.map_append,h.bls];rfl
 d:=h.d.grown' hg (aX h.d.1 h.b.head (by decide))
 r:=h.r.grown hg (aX h.r h.b.head (by decide))
 i:=h.i.grown hg (aX h.i h.b.head (by decide))
 e:=h.e.grown hg (aX h.e h.b.head (by decide))
 tb:=fun k hk B hB e=>by
  rcases List.mem_append.1 hB with hB|hB
  .exact h.tb k hk B hB e
  .simp at hB;subst hB;have:=(hx.lt _ e).1;have:=ht _ hk;omega
 tr:=h.tr
 br:=fun k hk B hB e=>by
  rcases List.mem_append.1 hB with hB|hB
  .exact h.br k hk B hB e
  .simp at hB;subst hB;have:=(hx.lt _ e).1;have:=hr _ hk;omega
theorem MO.kept {S:Nat->Prop}{M:Ma}(h:MO W base P M)(ht:Turn S W W')(hS:∀ k,S k->k<base\/∃ cs,Blk W k cs 53):MO W' base P M:=by
 have key:∀ {t:TypeId} {sz n:Nat} {v:Value} {xs:List Value},W.ownsRow base t sz v n xs->t≠53->∀ k,v.ownBlock=some k->¬ S k:=fun ho hne k hk s=>by
  rcases hS k s with hs|⟨cs,hs⟩
  .have:=(World.ownsRow.lt ho k hk).1;omega
  .obtain ⟨c1,k1⟩:=aM ho hk;exact hne (aW k1 hs)
 have row:∀ {t:TypeId} {sz n:Nat} {v:Value} {xs:List Value},W.ownsRow base t sz v n xs->t≠53->W'.ownsRow base t sz v n xs:=fun {t} {sz} {n} {v} {xs} ho hne=>by
  have hk:=key ho hne;obtain ⟨hl,h0|⟨g,cap,cur,hv,hg,hh,h1,h2,h3,h4⟩⟩:=ho
  .exact ⟨hl,.inl h0⟩
  .exact ⟨hl,.inr ⟨g,cap,cur,hv,hg,aA (w:=W) ht hh (hk g (by rw [hv];rfl)),h1,h2,h3,h4⟩⟩
 exact ⟨row h.t (by decide),⟨row h.b.head (by decide),fun B hB=>⟨(h.b.rows B hB).1,row (h.b.rows B hB).2 (by decide)⟩,h.b.apart⟩,h.bls,⟨row h.d.1 (by decide),h.d.2⟩,row h.r (by decide),row h.i (by decide),row h.e (by decide),h.tb,h.tr,h.br⟩
structure MB (w W:World)(r:Nat)(a:Option Addr)(n c:Nat)(zs:List Int)(k g:Nat)(P:PMod)(M:Ma):Prop where
 d:Dst w W r a n c zs k
 box:Blk W g (fL P M.a1 M.c1 M.a2 M.c2 M.bl M.a3 M.c3 M.a5 M.c5 M.a6 M.c6 M.a7 M.c7) 53
 hg:w.heap.size<=g
 o:MO W w.heap.size P M
 ds:∃ db,M.a3=some ⟨db,0,none⟩
theorem MB.turn {a:Option Addr}{M:Ma}(h:MB w W r a n c zs k g P M)(ht:Turn (fun j=>j=r) W W')(d:Dst w W' r a n c zs k'):MB w W' r a n c zs k' g P M:=
 ⟨d,aA ht h.box (by have:=h.hg;have:=h.d.lt;omega),h.hg,h.o.kept ht (fun j hj=>.inl (by subst hj;exact h.d.lt)),h.ds⟩
theorem MB.bw {a:Option Addr}{M:Ma}(h:MB w W r a n c zs k g P M)(hb:Below W.heap.size W W'):MB w W' r a n c zs k g P M:=
 ⟨h.d.bw hb,h.box.bw hb,h.hg,h.o.kept (S:=fun _=>False) (aJ hb) (fun j hj=>absurd hj id),h.ds⟩
theorem jZ {sz:Nat}{t:TypeId}(hb:Blk W g cs 53)(ho:W.ownsRow base t sz v n xs)(hg:W.grownBy W' v.ownBlock)(hne:t≠53):Blk W' g cs 53:=
 fD hg hb (fun e=>by
  obtain ⟨c1,k1⟩:=aM ho e.symm
  exact hne (aW k1 hb))
theorem MB.put {a:Option Addr}{i:Nat}{M:Ma}(d:Dst w W r a n c zs k)(hg:w.heap.size<=g)(box:Blk W g cs 53)(o:MO W w.heap.size P M)(ds:∃ db,M.a3=some ⟨db,0,none⟩)(e:cs.setIfInBounds i v=fL P M.a1 M.c1 M.a2 M.c2 M.bl M.a3 M.c3 M.a5 M.c5 M.a6 M.c6 M.a7 M.c7):MB w (W.setCell ⟨g,i,none⟩ v) r a n c zs k g P M:=
 ⟨d.set hg i v,by rw [<- e];exact box.set i v,hg,o.kept (aC W g i v) (fun j hj=>.inr (by subst hj;exact ⟨_,box⟩)),ds⟩
