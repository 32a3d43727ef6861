import Derived.Deep.MidRow
import Derived.Test.YtdjdcdnjjmjonaaGreatR21
import Derived.Test.YtdjdcdnjjmjonaaGreatR23
set_option linter.all false
set_option maxHeartbeats 4000000
namespace Go.Proofs.YtdjdcdnjjmjonaaGreat
open Go.RowKit
open Go.Proofs.Tryz
set_option maxRecDepth 100000
variable {i:Int}
def sB (k j)(p:j<=k.bits)(l:∀n:Int,0<=n->n<2^j->k.wrap n=n)(a b:Nat)(ha:a<2^j)(g:b<2^j):bits .xor k a b=((a ^^^ b:Nat):Int):=by
 have f:2^j<=2^k.bits:=Nat.pow_le_pow_right Ja p;have e:a%2^k.bits=a:=Nat.mod_eq_of_lt$ Nat.lt_of_lt_of_le ha f;have d:b%2^k.bits=b:=Nat.mod_eq_of_lt$ Nat.lt_of_lt_of_le g f;simp only[bits,BitVec.ofInt_natCast,BitVec.toNat_xor,BitVec.toNat_ofNat,e,d];exact l _ (Int.natCast_nonneg _) (by exact_mod_cast Nat.xor_lt_two_pow ha g)
def gY (n)(a:0<=n)(b:n<2^32):IntKind.u32.wrap n=n:=by
 rw[IntKind.wrap_u32];omega
theorem aAp (op)(g:op=.and\/op=.or\/op=.xor)(x y)(k:0<=x)(x1:x<=4294967295)(j:0<=y)(t:y<=4294967295):bits op .u32 x y=bits op .i64 x y/\0<=bits op .i64 x y/\bits op .i64 x y<=4294967295:=by
 obtain⟨a,rfl⟩:=Int.eq_ofNat_of_zero_le k;obtain⟨b,rfl⟩:=Int.eq_ofNat_of_zero_le j;have i:a<2^32:=J
 have e:b<2^32:=J
 have d:a<2^62:=J
 have f:b<2^62:=J
 have:=bits_nat .u32 32 Ja gY a b i e;have:=bits_nat .i64 62 Ja bM a b d f;have:=sB .u32 32 Ja gY a b i e;have:=sB .i64 62 Ja bM a b d f;have:=Nat.and_lt_two_pow a e;have:=Nat.or_lt_two_pow i e;have:=Nat.xor_lt_two_pow i e;rcases g with rfl|rfl|rfl
 .grind
 .grind
 .grind
def aPw (y)(a:0<=y)(b:y<=4294967295):bits .and .u32 y 31=y%32:=bits_mask .u32 32 Ja gY 5 Ja y a J
def aVo (y)(a:0<=y)(b:y<=4294967295):bits .and .u32 y 65535=y%65536:=bits_mask .u32 32 Ja gY 16 Ja y a J
theorem aSb (z i)(e:0<=z)(d:z<=4294967295)(f:0<=i)(l:i<=65535):bits .or .u32 (bits .and .u32 z 65535) (IntKind.u32.wrap$ IntKind.u32.wrap i*65536)=z%65536+i*65536:=by
 rw[aVo z e d,gY i f J,gY (i*65536) J J];let⟨a,g⟩:=Int.eq_ofNat_of_zero_le$ show 0<=z%65536 from J;let⟨b,j⟩:=Int.eq_ofNat_of_zero_le$ show 0<=i*65536 from J;have:=(bits_nat .u32 32 Ja gY a b J J).2;have:=(bits_nat .u32 32 Ja gY b a J J).2;have:=bits_join .u32 32 Ja gY 16 (i*65536) (z%65536) J J J J J J
 grind
def aTt (k:Nat)(i z y:Int):Int:=
 [i,bits .or .u32 (bits .and .u32 z 65535)$ IntKind.u32.wrap$ IntKind.u32.wrap i*65536,y,IntKind.u32.wrap$ z+y,(y+eA i)%4294967296,IntKind.u32.wrap$ z-y,IntKind.u32.wrap$ z*y,bits .and .u32 z y,bits .or .u32 z y,bits .xor .u32 z y,alu 12 i z y,alu 13 i z y].getD k 0
def aFl {z y:Int}(g:0<=i)(f:i<=65535)(a:0<=z)(b:z<=4294967295)(d:0<=y)(e:y<=4294967295)(k)(h:k<12):aTt k i z y=alu (k+2:Nat) i z y/\0<=aTt k i z y/\aTt k i z y<=4294967295:=by
 have A:=aAp .and (.inl rfl) z y a b d e;have B:=aAp .or (.inr$ .inl rfl) z y a b d e;have C:=aAp .xor (.inr$ .inr rfl) z y a b d e;have D:=aSb z i a b g f;have E:0<=z/(2:Int)^(y%32).toNat/\z/(2:Int)^(y%32).toNat<=4294967295:=⟨Int.ediv_nonneg a$ Int.le_of_lt$ pow_pos _,Int.le_trans (Int.ediv_le_self _ a) b⟩
 match k,h with
 | 0,_=>exact⟨rfl,by show 0<=i/\i<=4294967295;omega⟩
 | 1,_=>exact⟨D,by show 0<=bits .or .u32 _ _/\bits .or .u32 _ _<=_;rw[D];omega⟩
 | 2,_=>exact⟨rfl,d,e⟩
 | 3,_=>exact⟨IntKind.wrap_u32 _,by show 0<=IntKind.u32.wrap _/\IntKind.u32.wrap _<=_;rw[IntKind.wrap_u32];omega⟩
 | 4,_=>exact⟨rfl,by show 0<=(y+eA i)%4294967296/\(y+eA i)%4294967296<=_;omega⟩
 | 5,_=>exact⟨IntKind.wrap_u32 _,by show 0<=IntKind.u32.wrap _/\IntKind.u32.wrap _<=_;rw[IntKind.wrap_u32];omega⟩
 | 6,_=>exact⟨IntKind.wrap_u32 _,by show 0<=IntKind.u32.wrap _/\IntKind.u32.wrap _<=_;rw[IntKind.wrap_u32];omega⟩
 | 7,_=>exact⟨A.1,by show 0<=bits .and .u32 z y/\bits .and .u32 z y<=_;rw[A.1];exact A.2⟩
 | 8,_=>exact⟨B.1,by show 0<=bits .or .u32 z y/\bits .or .u32 z y<=_;rw[B.1];exact B.2⟩
 | 9,_=>exact⟨C.1,by show 0<=bits .xor .u32 z y/\bits .xor .u32 z y<=_;rw[C.1];exact C.2⟩
 | 10,_=>exact⟨rfl,by show 0<=(z*(2:Int)^(y%32).toNat)%4294967296/\(z*(2:Int)^(y%32).toNat)%4294967296<=_;omega⟩
 | 11,_=>exact⟨rfl,E⟩
def opz (C:Cy)(op d a i pc:Int)(rg:qi):Res:=
 if op=14 then ldz C pc rg d a i 1 else if op=15 then ldz C pc rg d a i 2 else if op=16 then ldz C pc rg d a i 4
 else if op=17 then stz C pc rg d a i 1 else if op=18 then stz C pc rg d a i 2 else if op=19 then stz C pc rg d a i 4
 else if 2<=op/\op<=13 then C.go 0 0 (m32$ pc+4) (rg.set d.toNat$ alu op i (rg.getD d.toNat 0)$ rg.getD a.toNat 0)
 else C.go (ev op i$ m32$ pc+4).1 (ev op i$ m32$ pc+4).2 (if jmp op (rg.getD d.toNat 0)=true then m32 (pc+4+4*eA i) else m32 (pc+4)) rg
variable {w W X:qw}{M:Mz}{pc pc':Int}{rg rg':qi}
def opL:List Nat:=[203,205,207,209,211,212,214,215,216,217,218,219,220,221,223,224,225,227,228,229,231,232,233,235,236]
theorem aEi {C:Cy}{op d a:Int}(h:2<=op)(b:op<=13):opz C op d a i pc rg=C.go 0 0 (m32$ pc+4) (rg.set d.toNat$ alu op i (rg.getD d.toNat 0)$ rg.getD a.toNat 0):=by
 unfold opz
 repeat rw[if_neg J]
 grind
def aXo (k:Nat)(I:k<12)(op d a i w)(h:Pz w M pc rg)(B:op=(k:Int)+2)(E:0<=d)(H:d<=7)(x:0<=a)(D:a<=7)(G:0<=i)(t:i<=65535):
 qC (opL.getD (k+1) 0) #[.pointer$ qP M.g,.agg$ qW op d a i] w (OpP w M$ opz M.toCy op d a i pc rg):=by
 have l:qY w ((w.alloc$ .cells (qW op d a i) 186).alloc$ .cells #[qI 0,qI 0] 80):=bal.alloc Jb _;have kb:=(Blk.new w (qW op d a i) 186).alloc$ .cells #[qI 0,qI 0] 80;have g:=Blk.new (w.alloc$ .cells (qW op d a i) 186) #[qI 0,qI 0] 80;simp only[xF]at g;have s:=h.p.blk.lt;have K:=zh λw h=>aIn op d a i M.g pc rg M.v1 M.v2 M.v3 M.v4 w h E H;have P:=zh λw h=>aO4 op d a i M.g pc rg M.v1 M.v2 M.v3 M.v4 w h x D;have O:=zh λw h=>sL op d a i M.g pc rg M.v1 M.v2 M.v3 M.v4 w h x D G t;obtain⟨z0,z1⟩:=h.p.range d.toNat;obtain⟨U,V⟩:=h.p.range a.toNat;have A:=aFl G t z0 z1 U V k I;have u:Zh (∀w,Pz w M pc rg->qC 206 #[.pointer$ qP M.g,.agg$ qW op d a i,.int .u32$ aTt k i (rg.getD d.toNat 0)$ rg.getD a.toNat 0] w (OpP w M$ opz M.toCy op d a i pc rg)):=λw h=>(aGg op d a i _ M.g pc rg M.v1 M.v2 M.v3 M.v4 w h.p E H A.2.1 A.2.2).mono λe W q=>by rw[aEi J J,B,show(k:Int)+2=(k+2:Nat)from rfl,<-A.1];exact opT h q
 obtain⟨r,hr⟩:=aO$ opz M.toCy op d a i pc rg;rw[<-hr]at u⊢;generalize rg.getD d.toNat 0=z at *;generalize rg.getD a.toNat 0=y at *;have:Op.shift .shl .u32 z .u32 (bits .and .u32 y 31)=pure (.int .u32$ alu 12 i z y):=by rw[aPw y U V,shift_shl_u32 _ _ _ J J,IntKind.wrap_u32];rfl
 have:Op.shift .shr .u32 z .u32 (bits .and .u32 y 31)=pure (.int .u32$ alu 13 i z y):=by rw[aPw y U V,shift_shr_u32 _ _ _ J J];rfl
 have b:=h.bw l;have j:=l;have p:=kb.four';have e1:=g.two';clear h l;clear A hr B z0 z1 U V;rcases(show k=0\/k=1\/k=2\/k=3\/k=4\/k=5\/k=6\/k=7\/k=8\/k=9\/k=10\/k=11 from J)with rfl|rfl|rfl|rfl|rfl|rfl|rfl|rfl|rfl|rfl|rfl|rfl
 show qC 205 _ _ _;go_enter func205,ntmps205;rotate_left;show qC 207 _ _ _;go_enter func207,ntmps207;rotate_left;show qC 209 _ _ _;go_enter func209,ntmps209;rotate_left;show qC 211 _ _ _;go_enter func211,ntmps211;rotate_left;show qC 212 _ _ _;go_enter func212,ntmps212;rotate_left;show qC 214 _ _ _;go_enter func214,ntmps214;rotate_left;show qC 215 _ _ _;go_enter func215,ntmps215;rotate_left;show qC 216 _ _ _;go_enter func216,ntmps216;rotate_left;show qC 217 _ _ _;go_enter func217,ntmps217;rotate_left;show qC 218 _ _ _;go_enter func218,ntmps218;rotate_left;show qC 219 _ _ _;go_enter func219,ntmps219;rotate_left;show qC 220 _ _ _;go_enter func220,ntmps220;rotate_left
 all_goals
  go_wp2_with fail
  first
  | (go_at_call 206;refine(u.o _ (by first|exact b|exact b.drew)).mono ?_;intro e N q;obtain⟨rfl,Q,X,Y,Z⟩:=gZ b j s g J q;have p:=(b.kp Q kb Ja J).four';have e1:=(b.kp Q g Ja J).two';clear q)
  | go_region_held3 (λS=>S.cell? (qR w.heap.size 0)=some (qI op)/\S.cell? (qR w.heap.size 1)=some (qI d)/\S.cell? (qR w.heap.size 2)=some (qI a)/\S.cell? (qR w.heap.size 3)=some (qI i)) (go_keep)
    (first
      | (go_at_call 208;refine(K.o _ (by first|exact b.p|exact b.drew.p)).mono ?_;rintro e C ⟨rfl,f⟩;(try replace f:=aU f);replace j:=j.trans$ f.mono j.size;replace b:=b.bw f;replace kb:=kb.bw f;replace g:=g.bw f;have p:=kb.four';have e1:=g.two')
      | (go_at_call 210;refine(P.o _ (by first|exact b.p|exact b.drew.p)).mono ?_;rintro e C ⟨rfl,f⟩;(try replace f:=aU f);replace j:=j.trans$ f.mono j.size;replace b:=b.bw f;replace kb:=kb.bw f;replace g:=g.bw f;have p:=kb.four';have e1:=g.two')
      | (go_at_call 213;refine(O.o _ (by first|exact b.p|exact b.drew.p)).mono ?_;rintro e C ⟨rfl,f⟩;(try replace f:=aU f);replace j:=j.trans$ f.mono j.size;replace b:=b.bw f;replace kb:=kb.bw f;replace g:=g.bw f;have p:=kb.four';have e1:=g.two')
      | (go_at_call 206;refine(u.o _ (by first|exact b|exact b.drew)).mono ?_;intro e N q;obtain⟨rfl,Q,X,Y,Z⟩:=gZ b j s g J q;have p:=(b.kp Q kb Ja J).four';have e1:=(b.kp Q g Ja J).two';clear q))
  all_goals
   obtain⟨t,i2,i3,i4,i5,i6,i7⟩:=r;go_wp2;exact bodyPost_ret (v:=.agg #[qI t,qI i2]) (by simp[results,results205,results207,results209,results211,results212,results214,results215,results216,results217,results218,results219,results220,go_sem,Y,Z]) rfl X.o
variable {w W X:qw}{M:Mz}{pc pc':Int}{rg rg':qi}
abbrev opV (k:Nat):Value:=.func (Fn.func (opL.getD k 0)) #[] #[]
def opR:Array Value:=(Value.nilFunc::opL.map λf=>.func (Fn.func f) #[] #[]).toArray
def nilR:Array Value:=#[.nilFunc,.nilFunc,.nilFunc,.nilFunc,.nilFunc,.nilFunc,.nilFunc,.nilFunc,.nilFunc,.nilFunc,.nilFunc,.nilFunc,.nilFunc,.nilFunc,.nilFunc,.nilFunc,.nilFunc,.nilFunc,.nilFunc,.nilFunc,.nilFunc,.nilFunc,.nilFunc,.nilFunc,.nilFunc,.nilFunc]
def aL1 (w:World)(t):(w.alloc$ .cells nilR t).there w.heap.size 0 26:=by
 intro j a;have k:=Blk.new w nilR t;rw[Nat.zero_add];refine⟨?_,k.frozen j⟩;rw[k.cell,Array.getElem?_eq_getElem$ show j<nilR.size from a];rfl
def aRr:(opR.all λx=>x.oneCell')=true:=Je
def uJ (B b:Nat)(a:World)(d:B<=b):∀(vs:List Value)(o:Nat)(w:World),Below B a w->Below B a (w.setCells b o vs)
 | [],o,w,h=>h
 | v::vs,o,w,h=>uJ B b a d vs (o+1) _$ h.setCell (p:=⟨b,o,none⟩) d v
def aV6 (k:Nat)(j:k<25)(op)(g:op=(k:Int)+1)(w):qC 154 #[qI op] w (qB w$ opV k):=by
 have d:=zh$ aL1 w 260;have p:0<=op:=J
 have q:op<26:=J
 have hc:((w.alloc$ .cells nilR 260).setCells (qs w) 0 opR.toList).cell? (qh w op.toNat)=some (opV k):=by
  have:=World.rangeAt_setCells_same _ w.heap.size 0 opR.toList d.o (k+1) (opV k) (by simp only[opR,List.getElem?_cons_succ,List.getElem?_map,opV];rw[xB,List.getElem?_eq_getElem$ show k<opL.length from j];rfl);rw[show op.toNat=0+(k+1)from J];exact this
 have l:=zh$ uJ (qs w) (qs w) w aQ opR.toList 0 _$ bal (o:=.cells nilR 260);clear g
 delta qC;go_in
 go_wp2_with ((with_reducible refine wpList_store_mid rfl 260 (Operand.tmp 3) (Operand.tmp 4) rfl w.heap.size 0 opR ?_ ?_ ?_ ?_ ?_ ?_);rfl;rfl;exact d.o;kernel_rfl;exact aRr;have a:=hc;have b:=l;generalize e:(w.alloc$ Obj.cells nilR 260).setCells w.heap.size 0 opR.toList=f at a b;(first|rw[show(w.alloc$ Obj.cells #[.nilFunc,.nilFunc,.nilFunc,.nilFunc,.nilFunc,.nilFunc,.nilFunc,.nilFunc,.nilFunc,.nilFunc,.nilFunc,.nilFunc,.nilFunc,.nilFunc,.nilFunc,.nilFunc,.nilFunc,.nilFunc,.nilFunc,.nilFunc,.nilFunc,.nilFunc,.nilFunc,.nilFunc,.nilFunc,.nilFunc] 260).setCells w.heap.size 0 opR.toList=f from e]);clear e hc)
 go_ret;exact⟨rfl,b.o⟩
def aXx (ps:List PMod)(L:Lay):Decidable (vF ps L):=
 have:=aVr ps L;have:∀b s,Decidable$ sOk L b s:=λ_ _=>inferInstance
 decidable_of_iff (Lok ps L/\∀m,m<ps.length->∀b,b<(ps.getD m zP).bl.length+1->∀s,s<L.slots.length+1->0<=pcq ps (m:Int) ((b:Int)-1)->sOk L ((b:Int)-1) ((s:Int)-1)->(plR ps L (m:Int) ((b:Int)-1)$ (s:Int)-1).length<=8) (by
  unfold vF;refine and_congr_right λ_=>⟨λh m b s hp hs=>?_,λh m _ b _ s _=>h m _ _⟩
  have hmb:(0<=m/\m<(ps.length:Int))/\(b=-1\/(0<=b/\b<((ps.getD m.toNat zP).bl.length:Int))):=by
   unfold pcq at hp;split at hp
   .refine⟨by assumption,?_⟩;split at hp
    .exact .inl (by assumption)
    .split at hp
     .exact .inr (by assumption)
     .exact absurd hp Ja
   .exact absurd hp Ja
  have hs':=hs.fit;have:=h m.toNat J (b+1).toNat J (s+1).toNat J;rw[show((m.toNat:Nat):Int)=m from J,show(((b+1).toNat:Nat):Int)-1=b from J,show(((s+1).toNat:Nat):Int)-1=s from J]at this
  exact this hp hs)
def aXp (ps:List PMod)(L:Lay)(cs cw T:Int)(rz:qi)(xs:List SlT):Decidable (dM ps L cs cw T rz xs):=by unfold dM qD slk aln cmn;infer_instance
def aVk (M:Mn):Decidable (MOk M):=
 have:=aXx (aI M.ms) M.L;have:=aXp (aI M.ms) M.L M.cs M.cw M.tn M.rz M.lz;have:Decidable (aBb (aI M.ms) M.cs M.md M.bk M.lz):=by unfold aBb;infer_instance
 have:Decidable (lB (aI M.ms) M.cd M.hz):=by unfold lB;infer_instance
 decidable_of_iff (lkc (aI M.ms) M.cs M.cw M.ck M.cd=0/\vF (aI M.ms) M.L/\cok M.pc M.kn M.kz=true/\mok M.fn M.rn M.on=true/\imF (aI M.ms) M.L=M.fz/\(M.rn:Int)=M.L.ram/\(0<=M.tn/\M.tn<=1000000000)/\dM (aI M.ms) M.L M.cs M.cw M.tn M.rz M.lz/\aBb (aI M.ms) M.cs M.md M.bk M.lz/\lB (aI M.ms) M.cd M.hz) ⟨λ⟨h1,h2,h3,h4,h5,h6,h7,h8,h9,h10⟩=>⟨h1,h2,h3,h4,h5,h6,h7,h8,h9,h10⟩,λh=>⟨h.l,h.p,h.c,h.b,h.f,h.r,h.t,h.s,h.n,h.h⟩⟩
