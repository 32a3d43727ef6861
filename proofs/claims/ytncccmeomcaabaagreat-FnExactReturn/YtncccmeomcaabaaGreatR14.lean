import Derived.Maps.AppendAt
import Derived.Test.YtncccmeomcaabaaGreatR04
import Derived.Test.YtncccmeomcaabaaGreatR05
set_option linter.all false
set_option maxHeartbeats 4000000
namespace Go.Proofs.YtncccmeomcaabaaGreat
open Go.RowKit
open Go.Proofs.Tryz
set_option maxRecDepth 100000
variable {B g:Nat}{S:Nat->Prop}{fd:Bool}
def rok (b l o:Int):Bool:=
 decide (5<=l/\l<=14/\0<=o/\o<=255/\(8<=l\/o=0)/\0<=b/\b<=262144-(2:Int)^l.toNat/\b%(2:Int)^l.toNat=0)
theorem lO (b l o:Int)(r x y:Bool)(w:qw)(hb:(Lit.int .i64 b).wf=true):
 qC 245 #[.agg #[qI b,qI l,qI o,.bool r,.bool x,.bool y]] w (qB w (.bool (rok b l o))):=by
 by_cases h1:l<5
 .have hf:Zh (rok b l o=false):=by show _=_;unfold rok;simp;omega
  go_enter func245,ntmps245
  go_wp2;go_ret;exact ⟨aA hf.o.symm,bal⟩
 .by_cases h2:14<l
  .have hf:Zh (rok b l o=false):=by show _=_;unfold rok;simp;omega
   go_enter func245,ntmps245
   go_wp2;go_ret;exact ⟨aA hf.o.symm,bal⟩
  .by_cases h3:o<0
   .have hf:Zh (rok b l o=false):=by show _=_;unfold rok;simp;omega
    go_enter func245,ntmps245
    go_wp2;go_ret;exact ⟨aA hf.o.symm,bal⟩
   .by_cases h4:255<o
    .have hf:Zh (rok b l o=false):=by show _=_;unfold rok;simp;omega
     go_enter func245,ntmps245
     go_wp2;go_ret;exact ⟨aA hf.o.symm,bal⟩
    .by_cases h5:l<8/\o≠0
     .obtain ⟨h5a,h5b⟩:=h5;have hf:Zh (rok b l o=false):=by show _=_;unfold rok;simp;omega
      have h5c:(o !=0)=true:=by simpa using h5b
      clear h5b;go_enter func245,ntmps245
      go_wp2;go_ret;exact ⟨aA hf.o.symm,bal⟩
     .have hp:=rP l.toNat;have hp0:=pow_pos l.toNat
      have hf:Zh (rok b l o=decide (0<=b/\b<=262144-(2:Int)^l.toNat/\b%(2:Int)^l.toNat=0)):=by
       show _=_;unfold rok;congr 1;apply propext;constructor
       .rintro ⟨_,_,_,_,_,h⟩;exact h
       .intro h;exact ⟨by omega,by omega,by omega,by omega,by omega,h⟩
      by_cases h8:l<8
      .have h0:o=0:=by omega
       subst h0;clear h5 h3 h4;go_enter func245,ntmps245
       go_wp2_with (go_at_call 244;refine (fB _ (by omega) (by omega) _).mono ?_;rintro e w' ⟨rfl,rfl⟩)
       all_goals
        go_ret;refine ⟨aA ?_,bal⟩;rw [hf.o,xJ];simp;try omega
      .clear h5;go_enter func245,ntmps245
       go_wp2_with (go_at_call 244;refine (fB _ (by omega) (by omega) _).mono ?_;rintro e w' ⟨rfl,rfl⟩)
       all_goals
        go_ret;refine ⟨aA ?_,bal⟩;rw [hf.o,xJ];simp;try omega
theorem lT (b l o:Int)(r x y:Bool)(w:qw)(hb:(Lit.int .i64 b).wf=true):
 qC 256 #[.agg #[qI b,qI l,qI o,.bool r,.bool x,.bool y]] w (qB w (.bool (rok b l o))):=by
 by_cases h1:l<5
 .have hf:Zh (rok b l o=false):=by show _=_;unfold rok;simp;omega
  go_enter func256,ntmps256
  go_wp2;go_ret;exact ⟨aA hf.o.symm,bal⟩
 .by_cases h2:14<l
  .have hf:Zh (rok b l o=false):=by show _=_;unfold rok;simp;omega
   go_enter func256,ntmps256
   go_wp2;go_ret;exact ⟨aA hf.o.symm,bal⟩
  .by_cases h3:o<0
   .have hf:Zh (rok b l o=false):=by show _=_;unfold rok;simp;omega
    go_enter func256,ntmps256
    go_wp2;go_ret;exact ⟨aA hf.o.symm,bal⟩
   .by_cases h4:255<o
    .have hf:Zh (rok b l o=false):=by show _=_;unfold rok;simp;omega
     go_enter func256,ntmps256
     go_wp2;go_ret;exact ⟨aA hf.o.symm,bal⟩
    .by_cases h5:l<8/\o≠0
     .obtain ⟨h5a,h5b⟩:=h5;have hf:Zh (rok b l o=false):=by show _=_;unfold rok;simp;omega
      have h5c:(o !=0)=true:=by simpa using h5b
      clear h5b;go_enter func256,ntmps256
      go_wp2;go_ret;exact ⟨aA hf.o.symm,bal⟩
     .have hp:=rP l.toNat;have hp0:=pow_pos l.toNat
      have hf:Zh (rok b l o=decide (0<=b/\b<=262144-(2:Int)^l.toNat/\b%(2:Int)^l.toNat=0)):=by
       show _=_;unfold rok;congr 1;apply propext;constructor
       .rintro ⟨_,_,_,_,_,h⟩;exact h
       .intro h;exact ⟨by omega,by omega,by omega,by omega,by omega,h⟩
      by_cases h8:l<8
      .have h0:o=0:=by omega
       subst h0;clear h5 h3 h4;go_enter func256,ntmps256
       go_wp2
       all_goals
        go_ret;refine ⟨aA ?_,bal⟩;rw [hf.o,xJ];simp [*];try omega
      .clear h5;by_cases ho:o=0
       .subst ho;clear h3 h4;go_enter func256,ntmps256
        go_wp2
        all_goals
         go_ret;refine ⟨aA ?_,bal⟩;rw [hf.o,xJ];simp [*];try omega
       .have ho':(o !=0)=true:=by simpa using ho
        clear ho;go_enter func256,ntmps256
        go_wp2
        all_goals
         go_ret;refine ⟨aA ?_,bal⟩;rw [hf.o,xJ];simp [*];try omega
def rS (x:Nat):Nat:=x%2+x/2%2+x/4%2+x/8%2+x/16%2+x/32%2+x/64%2+x/128%2
set_option maxRecDepth 100000 in
theorem sE (x:Nat)(w:qw)(h1:x<256):
 qC 264 #[.int .u8 x] w fun e w'=>e=.returned (qI (rS x))/\w=w':=by
 go_enter func264,ntmps264
 go_wp2;go_ret;refine ⟨aH ?_,rfl⟩;clear w
 revert x
 decide +kernel
theorem aH7:∀ o:Fin 256,(255 ^^^ (255-o.val))=o.val:=by decide +kernel
theorem aKz (q:Nat)(h:q<256):bits BinOp.xor IntKind.u8 IntKind.u8.max (255-(q:Int))=(q:Int):=by
 have hm:IntKind.u8.max=255:=by decide
 rw [hm,u8_xor 255 (255-(q:Int)) (by omega) (by omega) (by omega) (by omega)];have:=aH7 ⟨q,h⟩;simp only at this;have e:(255:Int).toNat=255:=rfl;have e2:(255-(q:Int)).toNat=255-q:=by omega
 rw [e,e2,this]
theorem aL2:∀ q,q<256->rS q<=8:=by decide +kernel
theorem aC6 (b l:Int)(q:Nat)(r x y:Bool)(w:qw)(h:q<256):
 qC 265 #[.agg #[qI b,qI l,qI (255-(q:Int)),.bool r,.bool x,.bool y]] w (qB w (.int .u8 q)):=by
 have hx:=zh (aKz q h);have h0:0<=255-(q:Int):=by omega
 have h1:255-(q:Int)<=255:=by omega
 generalize 255-(q:Int)=o at *;go_enter func265,ntmps265
 go_wp2;go_ret;exact ⟨aH hx.o,bal⟩
theorem Blk.six' {w:qw}{a b c d e f:Value}{t:TypeId}(h:Blk w g #[a,b,c,d,e,f] t):
 w.cell? (qR g 0)=some a/\w.cell? (qR g 1)=some b/\w.cell? (qR g 2)=some c/\w.cell? (qR g 3)=some d/\w.cell? (qR g 4)=some e/\w.cell? (qR g 5)=some f/\∀ i,w.frozen? (qR g i)=false:=
 ⟨by rw [h.cell];rfl,by rw [h.cell];rfl,by rw [h.cell];rfl,by rw [h.cell];rfl,by rw [h.cell];rfl,by rw [h.cell];rfl,fun i=>h.frozen i⟩
theorem nG {n:Int}(h0:-9223372036854775808<=n:=by omega)(h1:n<=9223372036854775807:=by omega):IntKind.i64.wrap n=n:=by
 simp only [IntKind.wrap,IntKind.bits,IntKind.signed];simp;omega
def cnt (l:Int)(q:Nat):Int:=(rS q:Int)*(2:Int)^(l-3).toNat
theorem eJ (b l:Int)(q:Nat)(r x y:Bool)(w:qw)(h:q<256)(hl:5<=l)(hl':l<=14):
 qC 253 #[.agg #[qI b,qI l,qI (255-(q:Int)),.bool r,.bool x,.bool y]] w (qB w (qI (cnt l q))):=by
 have hp:=aL2 q h;have hpw:=rP (l-3).toNat;have hpw0:=pow_pos (l-3).toNat
 have hmul:(rS q:Int)*(2:Int)^(l-3).toNat<=8*1048576:=by
  have h1:(rS q:Int)*(2:Int)^(l-3).toNat<=8*(2:Int)^(l-3).toNat:=Int.mul_le_mul_of_nonneg_right (by omega) (by omega);omega
 have hmul0:0<=(rS q:Int)*(2:Int)^(l-3).toNat:=Int.mul_nonneg (by omega) (by omega);have hw2:IntKind.i64.wrap (l-3)=l-3:=nG;have HC:Zh (cnt l q=(rS q:Int)*(2:Int)^(l-3).toNat):=rfl;have kb:=Blk.new w #[qI b,qI l,qI (255-(q:Int)),.bool r,.bool x,.bool y] 214;have hB0:qY w (w.alloc (.cells #[qI b,qI l,qI (255-(q:Int)),.bool r,.bool x,.bool y] 214)):=bal;have HM:=zh (xA hmul0 hmul);clear hmul hmul0;have HP:=zh (sE q);go_enter func253,ntmps253
 go_wp2
 go_region_held3 (fun w'=>w'.cell? (qR w.heap.size 0)=some (qI b)/\w'.cell? (qR w.heap.size 1)=some (qI l)/\w'.cell? (qR w.heap.size 2)=some (qI (255-(q:Int)))/\w'.cell? (qR w.heap.size 3)=some (.bool r)/\w'.cell? (qR w.heap.size 4)=some (.bool x)/\w'.cell? (qR w.heap.size 5)=some (.bool y)) (go_keep)
  (first
    | (go_at_call 265;refine (aC6 b l q r x y _ h).mono ?_;rintro e w1 ⟨rfl,hb1⟩;obtain ⟨q1,q2,q3,q4,q5,q6,q7⟩:=(Blk.bw (by exact kb) hb1).six')
    | (go_at_call 264;refine (HP.o _ h).mono ?_;rintro e w2 ⟨rfl,rfl⟩))
 go_wp2;go_ret;refine ⟨aH ?_,hB0.drew.trans (hb1.mono (by simp))⟩;rw [HC.o];exact nG (by have:=HM.o;omega) (by have:=HM.o;omega)
theorem aQb:∀ (q i:Nat),q<256->i<8->(q ||| 2^i)<256:=by
 intro q i hq hi;exact Nat.or_lt_two_pow (n:=8) hq (Nat.pow_lt_pow_right (by omega) hi)
theorem aIb (q i:Nat)(w:qw)(h:q<256)(hi:i<8):
 qC 267 #[.int .u8 q,qI i] w fun e w'=>e=.returned (.int .u8 ((q ||| 2^i:Nat):Int))/\w=w':=by
 go_enter func267,ntmps267
 go_wp2;go_ret;refine ⟨aH ?_,rfl⟩;have hp:(2:Nat)^i<256:=Nat.pow_lt_pow_right (by omega) hi
 have e:(2:Int)^i%256=((2^i:Nat):Int):=by
  have:((2^i:Nat):Int)=(2:Int)^i:=by simp
  have:=pow_pos i;omega
 rw [e];exact u8_or_nat q (2^i) h hp
def cm (l:Int)(q:Nat)(l':Int)(q':Nat):Bool:=decide (cnt l' q'<cnt l q\/(cnt l q=cnt l' q'/\l<l'))
theorem tZ (b l b' l':Int)(q q':Nat)(w:qw)(h:q<256)(h':q'<256)(hl:5<=l)(hl2:l<=14)(hl':5<=l')(hl2':l'<=14):
 qC 262 #[.agg #[qI b,qI l,qI (255-(q:Int)),.bool false,.bool false,.bool false],.agg #[qI b',qI l',qI (255-(q':Int)),.bool false,.bool false,.bool false]] w (qB w (.bool (cm l q l' q'))):=by
 have ka:=(Blk.new w #[qI b,qI l,qI (255-(q:Int)),.bool false,.bool false,.bool false] 214).alloc (.cells #[qI b',qI l',qI (255-(q':Int)),.bool false,.bool false,.bool false] 214);have kb:=Blk.new (w.alloc (.cells #[qI b,qI l,qI (255-(q:Int)),.bool false,.bool false,.bool false] 214)) #[qI b',qI l',qI (255-(q':Int)),.bool false,.bool false,.bool false] 214;try unfold qY at *
 simp only [xF] at kb;have hB0:qY w ((w.alloc (.cells #[qI b,qI l,qI (255-(q:Int)),.bool false,.bool false,.bool false] 214)).alloc (.cells #[qI b',qI l',qI (255-(q':Int)),.bool false,.bool false,.bool false] 214)):=bal.alloc (by simp) _;have A1:=zh (eJ b l q false false false);have A2:=zh (eJ b' l' q' false false false);obtain ⟨o,ho⟩:=eqx (255-(q:Int));obtain ⟨o',ho'⟩:=eqx (255-(q':Int));have HM:Zh (cm l q l' q'=decide (cnt l' q'<cnt l q\/(cnt l q=cnt l' q'/\l<l'))):=rfl;rw [<- ho] at A1 ka kb hB0 ⊢;rw [<- ho'] at A2 ka kb hB0 ⊢;clear ho ho';generalize cnt l q=c1 at *;generalize cnt l' q'=c2 at *;go_enter func262,ntmps262
 go_wp2
 go_region_held3 (fun w'=>w'.cell? (qR w.heap.size 0)=some (qI b)/\w'.cell? (qR w.heap.size 1)=some (qI l)/\w'.cell? (qR w.heap.size 2)=some (qI o)/\w'.cell? (qR w.heap.size 3)=some (.bool false)/\w'.cell? (qR w.heap.size 4)=some (.bool false)/\w'.cell? (qR w.heap.size 5)=some (.bool false)/\w'.cell? (qR (w.heap.size+1) 0)=some (qI b')/\w'.cell? (qR (w.heap.size+1) 1)=some (qI l')/\w'.cell? (qR (w.heap.size+1) 2)=some (qI o')/\w'.cell? (qR (w.heap.size+1) 3)=some (.bool false)/\w'.cell? (qR (w.heap.size+1) 4)=some (.bool false)/\w'.cell? (qR (w.heap.size+1) 5)=some (.bool false)) (go_keep)
  (first
    | (go_at_call_of 253 (qI l);refine (A1.o _ h hl hl2).mono ?_;rintro e w1 ⟨rfl,hb1⟩;replace hb1:=dF hb1;obtain ⟨q1,q2,q3,q4,q5,q6,q7⟩:=(ka.bw hb1).six';obtain ⟨p1,p2,p3,p4,p5,p6,p7⟩:=(kb.bw hb1).six')
    | (go_at_call_of 253 (qI l');refine (A2.o _ h' hl' hl2').mono ?_;rintro e w2 ⟨rfl,hb2⟩;replace hb2:=hb1.trans (hb2.mono hb1.size);obtain ⟨q1,q2,q3,q4,q5,q6,q7⟩:=(ka.bw hb2).six';obtain ⟨p1,p2,p3,p4,p5,p6,p7⟩:=(kb.bw hb2).six'))
 have ka2:=ka.bw hb2;have kb2:=kb.bw hb2;have hB2:=hB0.trans (hb2.mono hB0.size);clear hb1 hb2 ka kb hB0;by_cases hc:c1=c2
 .subst hc;have hne:(c1 !=c1)=false:=by simp
  have HF:=zh (show decide (c1<c1\/(c1=c1/\l<l'))=decide (l<l') from by simp);obtain ⟨q1,q2,q3,q4,q5,q6,q7⟩:=ka2.six';obtain ⟨p1,p2,p3,p4,p5,p6,p7⟩:=kb2.six';go_wp2;go_ret;exact ⟨aA (by rw [HM.o,HF.o]),hB2⟩
 .have hne:(c1 !=c2)=true:=by simpa using hc
  have HF:=zh (show decide (c2<c1\/(c1=c2/\l<l'))=decide (c2<c1) from by simp [hc]);clear hc;obtain ⟨q1,q2,q3,q4,q5,q6,q7⟩:=ka2.six';obtain ⟨p1,p2,p3,p4,p5,p6,p7⟩:=kb2.six';go_wp2
  go_region_held3 (fun w'=>w'.cell? (qR w.heap.size 0)=some (qI b)/\w'.cell? (qR w.heap.size 1)=some (qI l)/\w'.cell? (qR w.heap.size 2)=some (qI o)/\w'.cell? (qR w.heap.size 3)=some (.bool false)/\w'.cell? (qR w.heap.size 4)=some (.bool false)/\w'.cell? (qR w.heap.size 5)=some (.bool false)/\w'.cell? (qR (w.heap.size+1) 0)=some (qI b')/\w'.cell? (qR (w.heap.size+1) 1)=some (qI l')/\w'.cell? (qR (w.heap.size+1) 2)=some (qI o')/\w'.cell? (qR (w.heap.size+1) 3)=some (.bool false)/\w'.cell? (qR (w.heap.size+1) 4)=some (.bool false)/\w'.cell? (qR (w.heap.size+1) 5)=some (.bool false)) (go_keep)
   (first
     | (go_at_call_of 253 (qI l);refine (A1.o _ h hl hl2).mono ?_;rintro e w3 ⟨rfl,hb1⟩;replace hb1:=dF hb1;obtain ⟨q1,q2,q3,q4,q5,q6,q7⟩:=(ka2.bw hb1).six';obtain ⟨p1,p2,p3,p4,p5,p6,p7⟩:=(kb2.bw hb1).six')
     | (go_at_call_of 253 (qI l');refine (A2.o _ h' hl' hl2').mono ?_;rintro e w4 ⟨rfl,hb2⟩;replace hb2:=hb1.trans (hb2.mono hb1.size);obtain ⟨q1,q2,q3,q4,q5,q6,q7⟩:=(ka2.bw hb2).six';obtain ⟨p1,p2,p3,p4,p5,p6,p7⟩:=(kb2.bw hb2).six'))
  have hB4:=hB2.trans (hb2.mono hB2.size);clear hb1 hb2 q1 q2 q3 q4 q5 q6 q7 p1 p2 p3 p4 p5 p6 p7;go_wp2;go_ret;exact ⟨aA (by rw [HM.o,HF.o]),hB4⟩
def Bst (w:qw)(B:Nat)(fd:Bool)(b l o:Int):Prop:=
 Blk w B #[.func (Fn.func 262) #[] #[],.bool fd,qI b,qI l,qI o,.bool false,.bool false,.bool false] 281
theorem Bst.cells {w:qw}{b l o:Int}(h:Bst w B fd b l o):
 w.cell? (qR B 0)=some (.func (Fn.func 262) #[] #[])/\w.cell? (qR B 1)=some (.bool fd)/\w.cell? (qR B 2)=some (qI b)/\w.cell? (qR B 3)=some (qI l)/\w.cell? (qR B 4)=some (qI o)/\w.cell? (qR B 5)=some (.bool false)/\w.cell? (qR B 6)=some (.bool false)/\w.cell? (qR B 7)=some (.bool false)/\∀ i,w.frozen? (qR B i)=false:=
 ⟨by rw [Blk.cell h];rfl,by rw [Blk.cell h];rfl,by rw [Blk.cell h];rfl,by rw [Blk.cell h];rfl,by rw [Blk.cell h];rfl,by rw [Blk.cell h];rfl,by rw [Blk.cell h];rfl,by rw [Blk.cell h];rfl,fun i=>Blk.frozen h i⟩
theorem aGv {a W:qw}(h:Turn S a W)(n:Nat):Turn S a (W.drewN n):=⟨h.os,h.tape,h.output,h.size,h.block⟩
def aFl (W:qw)(B:Nat)(b l o:Int):World:=
 ((((((W.setCell (qR B 1) (.bool true)).setCell (qR B 2) (qI b)).setCell (qR B 3) (qI l)).setCell (qR B 4) (qI o)).setCell (qR B 5) (.bool false)).setCell (qR B 6) (.bool false)).setCell (qR B 7) (.bool false)
theorem wB {W:qw}{b' l' o':Int}(h:Bst W B fd b' l' o')(b l o:Int):Bst (aFl W B b l o) B true b l o:=by
 have:=((((((Blk.set h 1 (.bool true)).set 2 (qI b)).set 3 (qI l)).set 4 (qI o)).set 5 (.bool false)).set 6 (.bool false)).set 7 (.bool false);unfold Bst aFl;simpa using this
theorem rE (W:qw)(B:Nat)(b l o:Int):Turn (fun j=>j=B) W (aFl W B b l o):=by
 have T:∀ (X:qw) (i:Nat) (v:Value),Turn (fun j=>j=B) X (X.setCell (qR B i) v):=fun X i v=>⟨rfl,rfl,rfl,by rw [aL];exact aN,fun j hj hn=>heap_setCell_other _ _ _ _ hn⟩;unfold aFl;exact ((((((T _ _ _).trans (T _ _ _)).trans (T _ _ _)).trans (T _ _ _)).trans (T _ _ _)).trans (T _ _ _)).trans (T _ _ _)
theorem aHk (B:Nat)(b l o b' l' o':Int)(w:qw)(h:Bst w B false b' l' o'):
 qC 268 #[.pointer (qP B),.agg #[qI b,qI l,qI o,.bool false,.bool false,.bool false]] w fun e w'=>e=.returned (.tuple #[])/\Bst w' B true b l o/\Turn (fun j=>j=B) w w':=by
 have hlt:=Blk.lt h;obtain ⟨q1,q2,q3,q4,q5,q6,q7,q8,q9⟩:=h.cells;have HF:Zh (Bst (w.alloc (.cells #[qI b,qI l,qI o,.bool false,.bool false,.bool false] 214)) B false b' l' o'):=Blk.alloc h _;have HT:=zh (iO (S:=fun j=>j=B) w (.cells #[qI b,qI l,qI o,.bool false,.bool false,.bool false] 214));clear h;go_enter func268,ntmps268
 go_wp2
 go_quiet (fail)
 go_wp2
 go_end0
 exact ⟨rfl,wB (W:=(w.alloc (.cells #[qI b,qI l,qI o,.bool false,.bool false,.bool false] 214)).drewN _) HF.o b l o,(aGv HT.o _).trans (rE _ B b l o)⟩
def aPw (w:qw)(B:Nat)(t:Bool)(b l o b' l' o':Int):Prop:=Bst w B true (if t then b else b') (if t then l else l') (if t then o else o')
theorem aHl (B:Nat)(b l b' l':Int)(q q':Nat)(w:qw)(h:Bst w B true b' l' (255-(q':Int)))(hq:q<256)(hq':q'<256)(hl:5<=l)(hl2:l<=14)(hl':5<=l')(hl2':l'<=14):
 qC 268 #[.pointer (qP B),.agg #[qI b,qI l,qI (255-(q:Int)),.bool false,.bool false,.bool false]] w fun e w'=>e=.returned (.tuple #[])/\aPw w' B (cm l q l' q') b l (255-(q:Int)) b' l' (255-(q':Int))/\Turn (fun j=>j=B) w w':=by
 have hlt:=Blk.lt h;have C1:=zh (tZ b l b' l' q q');have kb:=Blk.new w #[qI b,qI l,qI (255-(q:Int)),.bool false,.bool false,.bool false] 214;have hb:Bst (w.alloc (.cells #[qI b,qI l,qI (255-(q:Int)),.bool false,.bool false,.bool false] 214)) B true b' l' (255-(q':Int)):=Blk.alloc h _;have HT:=zh (iO (S:=fun j=>j=B) w (.cells #[qI b,qI l,qI (255-(q:Int)),.bool false,.bool false,.bool false] 214));obtain ⟨o,ho⟩:=eqx (255-(q:Int));obtain ⟨o',ho'⟩:=eqx (255-(q':Int));rw [<- ho] at C1 kb hb HT ⊢;rw [<- ho'] at C1 hb ⊢;clear ho ho' h;obtain ⟨q1,q2,q3,q4,q5,q6,q7,q8,q9⟩:=hb.cells;generalize cm l q l' q'=t at *;go_enter func268,ntmps268
 go_wp2
 go_region_held3 (fun w'=>w'.cell? (qR w.heap.size 0)=some (qI b)/\w'.cell? (qR w.heap.size 1)=some (qI l)/\w'.cell? (qR w.heap.size 2)=some (qI o)/\w'.cell? (qR w.heap.size 3)=some (.bool false)/\w'.cell? (qR w.heap.size 4)=some (.bool false)/\w'.cell? (qR w.heap.size 5)=some (.bool false)/\w'.cell? (qR B 0)=some (.func (Fn.func 262) #[] #[])/\w'.cell? (qR B 1)=some (.bool true)/\w'.cell? (qR B 2)=some (qI b')/\w'.cell? (qR B 3)=some (qI l')/\w'.cell? (qR B 4)=some (qI o')/\w'.cell? (qR B 5)=some (.bool false)/\w'.cell? (qR B 6)=some (.bool false)/\w'.cell? (qR B 7)=some (.bool false)) (go_keep)
  (first
    | (go_at_call 262;refine (C1.o _ hq hq' hl hl2 hl' hl2').mono ?_;rintro e w1 ⟨rfl,hb1⟩;replace hb1:=dF hb1;obtain ⟨p1,p2,p3,p4,p5,p6,p7⟩:=(kb.bw hb1).six';obtain ⟨q1,q2,q3,q4,q5,q6,q7,q8,q9⟩:=Bst.cells (show Bst w1 B true b' l' o' from Blk.bw hb hb1)))
 have hb':Bst w1 B true b' l' o':=Blk.bw hb hb1;have T1:=HT.o.trans (aJ (S:=fun j=>j=B) hb1);cases t
 .go_wp2
  go_end0
  exact ⟨rfl,hb',T1⟩
 .go_wp2
  go_end0
  exact ⟨rfl,wB hb' b l o,T1.trans (rE _ B b l o)⟩
def bK (i0 j:Nat):Nat:=2^(i0+j)-2^i0
theorem wF (i0:Nat):bK i0 0=0:=by simp [bK]
theorem aG4:∀ i0,i0<8->∀ j,j<8->i0+j<8->(bK i0 j ||| 2^(i0+j))=bK i0 (j+1):=by decide +kernel
theorem lB:∀ i0,i0<8->∀ j,j<9->i0+j<=8->bK i0 j<256:=by decide +kernel
theorem aI1:∀ i0,i0<8->∀ j,j<9->i0+j<=8->rS (bK i0 j)=j:=by decide +kernel
theorem aG5:∀ i0,i0<8->∀ j,j<9->i0+j<=8->(bK i0 j=255 ↔ j=8):=by decide +kernel
abbrev CSt:=Option (Int×Int×Nat)
def lY:CSt->Int
 | none=>0
 | some (b,l,q)=>cnt l q
def aO7 (s:CSt)(L:Int):Prop:=∀ b l q,s=some (b,l,q)->5<=l/\l<L/\q<256/\0<cnt l q
def gU (w:qw)(B:Nat):CSt->Prop
 | none=>Bst w B false 0 0 0
 | some (b,l,q)=>Bst w B true b l (255-(q:Int))
def keep (s:CSt)(b L:Int)(q:Nat):CSt:=if lY s<cnt L q then some (b,L,q) else s
theorem nH (l:Int)(P:Int)(hP:(2:Int)^(l-3).toNat=P)(i0 j:Nat)(h0:i0<8)(h:i0+j<=8):cnt l (bK i0 j)=j*P:=by
 unfold cnt;rw [hP,aI1 i0 h0 j (by omega) h]
theorem aDz (B:Nat)(b l:Int)(q:Nat)(w:qw)(h:gU w B none):
 qC 268 #[.pointer (qP B),.agg #[qI b,qI l,qI (255-(q:Int)),.bool false,.bool false,.bool false]] w fun e w'=>e=.returned (.tuple #[])/\gU w' B (some (b,l,q))/\Turn (fun j=>j=B) w w':=
 aHk B b l (255-(q:Int)) 0 0 0 w h
theorem sF (B:Nat)(b l b' l':Int)(q q':Nat)(w:qw)(h:gU w B (some (b',l',q')))(hq:q<256)(hq':q'<256)(hl:5<=l)(hl2:l<=14)(hl':5<=l')(hl2':l'<=14):
 qC 268 #[.pointer (qP B),.agg #[qI b,qI l,qI (255-(q:Int)),.bool false,.bool false,.bool false]] w fun e w'=>e=.returned (.tuple #[])/\gU w' B (if cm l q l' q' then some (b,l,q) else some (b',l',q'))/\Turn (fun j=>j=B) w w':=
 (aHl B b l b' l' q q' w h hq hq' hl hl2 hl' hl2').mono fun e w' he=>⟨he.1,by
   have:=he.2.1;cases hc:cm l q l' q'
   .rw [hc] at this;exact this
   .rw [hc] at this;exact this,he.2.2⟩
def stJ (s:CSt)(b l:Int)(i0 j:Nat):CSt:=if 8<=l\/j=8 then keep s b l (bK i0 j) else s
theorem aIm (s:CSt)(b l P:Int)(hP:(2:Int)^(l-3).toNat=P)(i0:Nat)(h0:i0<8)(hs:0<=lY s):stJ s b l i0 0=s:=by
 unfold stJ keep;rw [nH l P hP i0 0 h0 (by omega)];simp;omega
theorem aDy (B:Nat)(s:CSt)(b l P:Int)(hP:(2:Int)^(l-3).toNat=P)(hP0:0<P)(i0 j:Nat)(w:qw)(h0:i0<8)(hj:i0+j<8)(hl:5<=l)(hl2:l<=14)(hs:aO7 s l)(hs0:0<=lY s)(h8:8<=l\/j+1=8)(h:gU w B (stJ s b l i0 j)):
 qC 268 #[.pointer (qP B),.agg #[qI b,qI l,qI (255-(bK i0 (j+1):Int)),.bool false,.bool false,.bool false]] w fun e w'=>e=.returned (.tuple #[])/\gU w' B (stJ s b l i0 (j+1))/\Turn (fun j=>j=B) w w':=by
 have hq1:=lB i0 h0 (j+1) (by omega) (by omega);have hc1:=nH l P hP i0 (j+1) h0 (by omega);have hc0:=nH l P hP i0 j h0 (by omega);have hmul:((j+1:Nat):Int)*P=(j:Int)*P+P:=by rw [Int.natCast_add,Int.add_mul];simp
 have hjP:0<=(j:Int)*P:=Int.mul_nonneg (by omega) (by omega);have e1:stJ s b l i0 (j+1)=keep s b l (bK i0 (j+1)):=by unfold stJ;rw [if_pos h8]
 rw [e1];by_cases hk:8<=l/\lY s<cnt l (bK i0 j)
 .have e0:stJ s b l i0 j=some (b,l,bK i0 j):=by unfold stJ keep;rw [if_pos (Or.inl hk.1),if_pos hk.2]
  rw [e0] at h;refine (sF B b l b l (bK i0 (j+1)) (bK i0 j) w h hq1 (lB i0 h0 j (by omega) (by omega)) hl hl2 hl hl2).mono fun e w' he=>?_;have hcm:cm l (bK i0 (j+1)) l (bK i0 j)=true:=by unfold cm;rw [hc1,hc0,hmul];simp;omega
  have ek:keep s b l (bK i0 (j+1))=some (b,l,bK i0 (j+1)):=by unfold keep;rw [if_pos (by rw [hc1,hmul];rw [hc0] at hk;omega)]
  rw [hcm] at he;rw [ek];exact he
 .have e0:stJ s b l i0 j=s:=by
   unfold stJ;by_cases h8':8<=l
   .rw [if_pos (Or.inl h8')];unfold keep;rw [if_neg (fun e=>hk ⟨h8',e⟩)]
   .rw [if_neg (by omega)]
  rw [e0] at h
  match s,h,hs,hs0,hk with
  | none,h,_,_,_=>
    have ek:keep none b l (bK i0 (j+1))=some (b,l,bK i0 (j+1)):=by unfold keep;rw [if_pos (by rw [hc1,hmul];simp [lY];omega)]
    rw [ek];exact aDz B b l (bK i0 (j+1)) w h
  | some (b',l',q'),h,hs,hs0,hk=>
    obtain ⟨g1,g2,g3,g4⟩:=hs b' l' q' rfl;refine (sF B b l b' l' (bK i0 (j+1)) q' w h hq1 g3 hl hl2 g1 (by omega)).mono fun e w' he=>?_
    have hcm:cm l (bK i0 (j+1)) l' q'=decide (cnt l' q'<cnt l (bK i0 (j+1))):=by
     unfold cm;rw [xJ];simp;intro _ h;omega
    rw [hcm] at he;by_cases hlt:cnt l' q'<cnt l (bK i0 (j+1))
    .have ek:keep (some (b',l',q')) b l (bK i0 (j+1))=some (b,l,bK i0 (j+1)):=by
      show (if cnt l' q'<cnt l (bK i0 (j+1)) then some (b,l,bK i0 (j+1)) else some (b',l',q'))=_;rw [if_pos hlt]
     rw [ek];simp only [xR hlt,if_true] at he;exact he
    .have ek:keep (some (b',l',q')) b l (bK i0 (j+1))=some (b',l',q'):=by
      show (if cnt l' q'<cnt l (bK i0 (j+1)) then some (b,l,bK i0 (j+1)) else some (b',l',q'))=_;rw [if_neg hlt]
     rw [ek];simp only [xS hlt] at he;exact he
theorem tJ {w w':qw}{s:CSt}(t:Turn S w w')(h:gU w B s)(hk:¬ S B):gU w' B s:=by
 match s,h with
 | none,h=>exact aF t h hk
 | some (b,l,q),h=>exact aF t h hk
theorem lI (a l N:Int)(hl:5<=l)(hl2:l<=14)(hN:(2:Int)^l.toNat=N)(h0:0<=a:=by omega)(h1:a<262144:=by omega):0<=a-a%N/\a-a%N<=262144-N/\(a-a%N)%N=0/\0<=a%N/\a%N<N:=by
 have:l=5\/l=6\/l=7\/l=8\/l=9\/l=10\/l=11\/l=12\/l=13\/l=14:=by omega
 rcases this with rfl|rfl|rfl|rfl|rfl|rfl|rfl|rfl|rfl|rfl<;>(subst hN;simp;omega)
theorem wI (l:Int)(hl:5<=l):(2:Int)^l.toNat=8*(2:Int)^(l-3).toNat:=by
 have:l.toNat=(l-3).toNat+3:=by omega
 rw [this,Int.pow_add];omega
theorem aB8 (l:Int)(hl:5<=l)(hl2:l<=14):4<=(2:Int)^(l-3).toNat/\(2:Int)^(l-3).toNat<=2048:=by
 have:l=5\/l=6\/l=7\/l=8\/l=9\/l=10\/l=11\/l=12\/l=13\/l=14:=by omega
 rcases this with rfl|rfl|rfl|rfl|rfl|rfl|rfl|rfl|rfl|rfl<;>simp
theorem aMg (q:Nat)(h:q<256):bits BinOp.xor IntKind.u8 IntKind.u8.max (q:Int)=255-(q:Int):=by
 have:=aKz (255-q) (by omega);have e:(255-((255-q:Nat):Int))=(q:Int):=by omega
 rw [e] at this;rw [this];omega
def aGp (s:CSt)(a en l P b:Int)(i0:Nat)(s':CSt):Prop:=
 (a%P≠0/\s'=s) \/
 (a%P=0/\∃ j:Nat,i0+j<=8/\(b+((i0+j:Nat):Int)*P<=en\/j=0)/\(i0+j=8\/en<b+(((i0+j:Nat):Int)+1)*P)/\s'=stJ s b l i0 j)
theorem aNx {a w w':qw}(h:Turn S a w)(hb:qY w w'):Turn S a w':=h.trans (aJ hb)
theorem vC (B:Nat)(s:CSt)(a en l P N b:Int)(i0:Nat)(w:qw)(hl:5<=l)(hl2:l<=14)(ha:0<=a)(hae:a<en)(hen:en<=262144)(hs:aO7 s l)(hs0:0<=lY s)(hP:(2:Int)^(l-3).toNat=P)(hN:(2:Int)^l.toNat=N)(hb:a-a%N=b)(hi:(a-b)/P=(i0:Int))(h:gU w B s):
 qC 263 #[.pointer (qP B),qI a,qI en,qI l] w fun e w'=>e=.returned (.tuple #[])/\(∃ s',gU w' B s'/\aGp s a en l P b i0 s')/\Turn (fun j=>j=B) w w':=by
 obtain ⟨p4,p5⟩:=aB8 l hl hl2;obtain ⟨b0,b1,b2,b3,b4⟩:=lI a l N hl hl2 hN ha;have hNP:=wI l hl;rw [hP,hN] at hNP;have hN1:N<=16384:=by rw [hP] at p5;omega
 have hN0:0<N:=by rw [hP] at p4;omega
 rw [hb] at b0 b1 b2;rw [hP] at p4 p5;have hP':=zh hP;have hN':=zh hN;have hab:a-b=a%N:=by omega
 have hi8:i0<8:=by
  have:(a-b)/P<8:=by
   apply Int.ediv_lt_of_lt_mul (by omega);omega
  omega
 by_cases hm:a%P=0
 .have hab2:a=b+(i0:Int)*P:=by
   have e1:(a%N)%P=0:=by
    rw [hNP,Int.emod_emod_of_dvd a (Int.dvd_mul_left 8 P)];exact hm
   have e2:=Int.mul_ediv_add_emod (a-b) P;rw [hi,hab,e1,Int.mul_comm] at e2;omega
  have HK:=zh (aIm s b l P hP i0 hi8 hs0);have HS:=zh hs;have HNP:=zh hNP;have HAB:=zh hab2;have HAB1:=zh hab;have HH:=zh h;have HB2:=zh b2;have HM:=zh hm;clear hNP hs hab2 hab h b2;go_enter func263,ntmps263
  go_wp2;go_loopw [10,11] (fun r i wr=>∃ j:Nat,i0+j<=8/\r=.int .u8 (bK i0 j:Nat)/\i=qI ((i0+j:Nat):Int)/\(b+((i0+j:Nat):Int)*P<=en\/j=0)/\gU wr B (stJ s b l i0 j)/\Turn (fun j=>j=B) w wr) (fun _ i _=>8-(intOf i).toNat)
  .exact ⟨0,by omega,by rw [wF];rfl,by rw [hi];rfl,Or.inr rfl,by rw [HK.o];exact HH.o,Turn.refl _ _⟩
  .obtain ⟨j,hj,rfl,rfl,hq,hH,hT⟩:=hrel;obtain ⟨k,hk⟩:∃ k:Nat,k=i0+j:=⟨_,rfl⟩;have hkP:((k:Int)+1)*P=(k:Int)*P+P:=by rw [Int.add_mul];simp
   have hkP0:0<=(k:Int)*P:=Int.mul_nonneg (by omega) (by omega);have hkP1:(k:Int)*P<=8*P:=Int.mul_le_mul_of_nonneg_right (by omega) (by omega);have hm0:0<=((k:Int)+1)*P:=by omega
   have hm1:((k:Int)+1)*P<=18432:=by omega
   rw [<- hk] at hj hq ⊢;have HKP:=zh hkP;have HQ:=zh hq;have HHH:=zh hH;have HT:=zh hT;have HKK:=zh hk;have HI:=zh hi;have HBB:=zh hb;clear hkP hkP0 hkP1 hq hH hT hk hi hb hP hN b3 b4 hm;by_cases h8:k<8
   .by_cases hle:b+((k:Int)+1)*P<=en
    .have HLE:=zh hle;have hq0:=lB i0 hi8 j (by have:=HKK.o;omega) (by have:=HKK.o;omega);have hq1:=lB i0 hi8 (j+1) (by have:=HKK.o;omega) (by have:=HKK.o;omega);have HST:=zh (aG4 i0 hi8 j (by have:=HKK.o;omega) (by have:=HKK.o;omega));rw [<- HKK.o] at HST;have HNR:=zh (aMg (bK i0 (j+1)) hq1)
     have HROK:=zh (show rok b l (255-(bK i0 (j+1):Int))=decide (8<=l\/j+1=8) from by
      have hf:=aG5 i0 hi8 (j+1) (by have:=HKK.o;omega) (by have:=HKK.o;omega);unfold rok;rw [hN'.o];have:=HB2.o;rw [xJ];simp only [decide_eq_true_eq];constructor
      .rintro ⟨_,_,_,_,h|h,_⟩
       .exact Or.inl h
       .exact Or.inr (hf.1 (by omega))
      .intro h;refine ⟨hl,hl2,by omega,by omega,?_,by omega,by omega,HB2.o⟩;rcases h with h|h
       .exact Or.inl h
       .exact Or.inr (by have:=hf.2 h;omega))
     go_wp2_with fail
     refine (aIb (bK i0 j) k _ hq0 h8).mono ?_;rintro e w1 ⟨rfl,rfl⟩;rw [HST.o];obtain ⟨q,hq⟩:=eqx (bK i0 (j+1));rw [<- hq] at HNR HROK hq1 ⊢;have HQQ:=zh hq;clear hq;have hwf:(Lit.int .i64 b).wf=true:=by simp [Lit.wf,IntKind.min,IntKind.max,IntKind.bits,IntKind.signed];omega
     go_wp2_with fail
     rw [HNR.o];rw [show wrap64 (255-(q:Int))=255-(q:Int) from by unfold wrap64;omega];refine (lT b l (255-(q:Int)) false false false _ hwf).mono ?_;rintro e w2 ⟨rfl,hb2⟩;obtain ⟨q1,q2,q3,q4,q5,q6,q7⟩:=(Blk.bw (Blk.new wr #[qI b,qI l,qI (255-(q:Int)),.bool false,.bool false,.bool false] 214) hb2).six';have HT2:=zh (aNx (aNx HT.o (brf.alloc aN (.cells #[qI b,qI l,qI (255-(q:Int)),.bool false,.bool false,.bool false] 214))) hb2);have HH2:=zh (tJ (S:=fun _=>False) (aJ hb2) (tJ (S:=fun _=>False) (iO wr (.cells #[qI b,qI l,qI (255-(q:Int)),.bool false,.bool false,.bool false] 214)) HHH.o id) id);rw [HROK.o];clear hb2;by_cases hc:8<=l\/j+1=8
     .simp only [hc,decide_true];have HOF:=zh (aDy B s b l P hP'.o (by omega) i0 j w2 hi8 (by have:=HKK.o;omega) hl hl2 HS.o hs0 hc HH2.o);rw [<- HQQ.o] at HOF;go_wp2_with fail
      refine HOF.o.mono ?_;rintro e w3 ⟨rfl,hH3,hT3⟩;have HH3:=zh hH3;have HT3:=zh (HT2.o.trans hT3);clear hH3 hT3;go_wp2_with fail
      go_roundw
      .exact ⟨j+1,by have:=HKK.o;omega,by rw [HQQ.o],by rw [HKK.o];go_num,Or.inl (by have:=HLE.o;have e:=HKK.o;rw [show ((i0+(j+1):Nat):Int)=(k:Int)+1 by omega];exact this),HH3.o,HT3.o⟩
      .simp [intOf];omega
     .simp only [hc,decide_false]
      have HH3:=zh (show gU w2 B (stJ s b l i0 (j+1)) from by
       have e1:stJ s b l i0 (j+1)=s:=by unfold stJ;rw [if_neg hc]
       have e2:stJ s b l i0 j=s:=by unfold stJ;rw [if_neg (by have:=HKK.o;omega)]
       rw [e1,<- e2]
       exact HH2.o)
      go_wp2_with fail
      go_roundw
      .exact ⟨j+1,by have:=HKK.o;omega,by rw [HQQ.o],by rw [HKK.o];go_num,Or.inl (by have:=HLE.o;have e:=HKK.o;rw [show ((i0+(j+1):Nat):Int)=(k:Int)+1 by omega];exact this),HH3.o,HT2.o⟩
      .simp [intOf];omega
    .have HLE:=zh hle;go_wp2
     go_end0
     exact ⟨rfl,⟨_,HHH.o,Or.inr ⟨HM.o,j,by have:=HKK.o;omega,by rw [<- HKK.o];exact HQ.o,by rw [<- HKK.o];exact Or.inr (by have:=HLE.o;omega),rfl⟩⟩,HT.o⟩
   .go_wp2
    go_end0
    exact ⟨rfl,⟨_,HHH.o,Or.inr ⟨HM.o,j,by have:=HKK.o;omega,by rw [<- HKK.o];exact HQ.o,Or.inl (by have:=HKK.o;omega),rfl⟩⟩,HT.o⟩
 .have hm':(a%P !=0)=true:=by simpa using hm
  have HN:=zh hm;clear hm;go_enter func263,ntmps263
  go_wp2
  (try simp only [Exit.inBlock,Exit.then]);refine bodyPost_ret (results_none rfl _ _ _) rfl ?_
  exact ⟨rfl,⟨s,h,Or.inl ⟨HN.o,rfl⟩⟩,Turn.refl _ _⟩
def aZ (a l:Int):Int:=a-a%(2:Int)^l.toNat
def cI (a l:Int):Nat:=((a%(2:Int)^l.toNat)/(2:Int)^(l-3).toNat).toNat
def jOf (a en l:Int):Nat:=min (8-cI a l) ((en-a)/(2:Int)^(l-3).toNat).toNat
def qOf (a en l:Int):Nat:=
 if l<8 then (if a%(2:Int)^l.toNat=0/\a+(2:Int)^l.toNat<=en then 255 else 0)
 else if a%(2:Int)^(l-3).toNat=0 then bK (cI a l) (jOf a en l) else 0
theorem uD (l:Int):cnt l 0=0:=by simp [cnt,rS]
theorem wT (s:CSt)(b l:Int)(h:0<=lY s):keep s b l 0=s:=by
 unfold keep;rw [uD,if_neg (by omega)]
theorem oX (a l P N:Int)(hl:5<=l)(hl2:l<=14)(hP:(2:Int)^(l-3).toNat=P)(hN:(2:Int)^l.toNat=N)(ha:0<=a)(ha2:a<262144):
 N=8*P/\4<=P/\P<=2048/\(a%N)%P=a%P/\cI a l<8/\(a%P=0->a%N=(cI a l:Int)*P)/\(a-aZ a l)/P=(cI a l:Int):=by
 obtain ⟨p4,p5⟩:=aB8 l hl hl2;have hNP:=wI l hl;rw [hP,hN] at hNP;rw [hP] at p4 p5;obtain ⟨b0,b1,b2,b3,b4⟩:=lI a l N hl hl2 hN ha ha2;have hd:(a%N)%P=a%P:=by rw [hNP,Int.emod_emod_of_dvd a (Int.dvd_mul_left 8 P)]
 have h0:0<=(a%N)/P:=Int.ediv_nonneg b3 (by omega);have h8:(a%N)/P<8:=Int.ediv_lt_of_lt_mul (by omega) (by omega);have hi:((cI a l:Nat):Int)=(a%N)/P:=by unfold cI;rw [hP,hN];omega
 refine ⟨hNP,p4,p5,hd,by omega,fun hm=>?_,?_⟩
 .have e2:=Int.mul_ediv_add_emod (a%N) P;rw [hd,hm,<- hi,Int.mul_comm] at e2;omega
 .unfold aZ;rw [hN,hi];congr 1;omega
theorem aP3 (a en l P N:Int)(hl:5<=l)(hl2:l<=14)(hP:(2:Int)^(l-3).toNat=P)(hN:(2:Int)^l.toNat=N)(ha:0<=a)(hae:a<en)(hen:en<=262144)(hm:a%P=0)(j:Nat)(h1:cI a l+j<=8)
 (h2:aZ a l+((cI a l+j:Nat):Int)*P<=en\/j=0) (h3:cI a l+j=8\/en<aZ a l+(((cI a l+j:Nat):Int)+1)*P):j=jOf a en l/\a+(j:Int)*P<=en:=by
 obtain ⟨g1,g2,g3,g4,g5,g6,g7⟩:=oX a l P N hl hl2 hP hN ha (by omega);have hb:aZ a l=a-a%N:=by unfold aZ;rw [hN]
 have e1:((cI a l+j:Nat):Int)*P=(cI a l:Int)*P+(j:Int)*P:=by rw [Int.natCast_add,Int.add_mul]
 have e2:(((cI a l+j:Nat):Int)+1)*P=(cI a l:Int)*P+(j:Int)*P+P:=by rw [Int.add_mul,e1];omega
 rw [hb,g6 hm,e1] at h2;rw [hb,g6 hm,e2] at h3
 have hjP:a+(j:Int)*P<=en:=by
  rcases h2 with h|h
  .omega
  .subst h;simp;omega
 have hd:(j:Int)<=(en-a)/P:=Int.le_ediv_of_mul_le (by omega) (by omega);refine ⟨?_,hjP⟩;unfold jOf;rw [hP];rcases h3 with h|h
 .omega
 .have:(en-a)/P<(j:Int)+1:=Int.ediv_lt_of_lt_mul (by omega) (by rw [Int.add_mul];omega);omega
theorem aDd (s s':CSt)(a en l P N:Int)(hl:5<=l)(hl2:l<=14)(hP:(2:Int)^(l-3).toNat=P)(hN:(2:Int)^l.toNat=N)(ha:0<=a)(hae:a<en)(hen:en<=262144)(hs:0<=lY s)
 (h:aGp s a en l P (aZ a l) (cI a l) s'):s'=keep s (aZ a l) l (qOf a en l):=by
 obtain ⟨g1,g2,g3,g4,g5,g6,g7⟩:=oX a l P N hl hl2 hP hN ha (by omega);rcases h with ⟨hm,rfl⟩|⟨hm,j,h1,h2,h3,rfl⟩
 .have hq:qOf a en l=0:=by
   unfold qOf;rw [hP,hN];by_cases h8:l<8
   .rw [if_pos h8,if_neg];rintro ⟨h,_⟩;rw [h] at g4;simp at g4;exact hm g4.symm
   .rw [if_neg h8,if_neg hm]
  rw [hq,wT _ _ _ hs]
 .obtain ⟨hj,hjP⟩:=aP3 a en l P N hl hl2 hP hN ha hae hen hm j h1 h2 h3;have g6':=g6 hm;unfold stJ qOf;rw [hP,hN];by_cases h8:l<8
  .rw [if_pos h8];by_cases h88:j=8
   .have:cI a l=0:=by omega
    rw [this] at g6';simp at g6';subst h88;rw [if_pos (Or.inr rfl),if_pos ⟨g6',by omega⟩,this];rfl
   .rw [if_neg (by omega),if_neg,wT _ _ _ hs];rintro ⟨k1,k2⟩;rw [k1] at g6'
    have hi0:cI a l=0:=by
     have:(cI a l:Int)=0:=by
      rcases Int.mul_eq_zero.1 g6'.symm with h|h
      .exact h
      .omega
     omega
    have hd:(8:Int)<=(en-a)/P:=Int.le_ediv_of_mul_le (by omega) (by omega);unfold jOf at hj;rw [hP] at hj;omega
  .rw [if_pos (Or.inl (by omega)),if_neg h8,if_pos hm,<- hj]
def bH (a en:Int)(n:Nat):CSt:=
 if h:n=0 then none else keep (bH a en (n-1)) (aZ a (5+((n-1:Nat):Int))) (5+((n-1:Nat):Int)) (qOf a en (5+((n-1:Nat):Int)))
theorem dN (a en:Int):bH a en 0=none:=by rw [bH,dif_pos rfl]
theorem dM (a en:Int)(n:Nat):bH a en (n+1)=keep (bH a en n) (aZ a (5+n)) (5+n) (qOf a en (5+n)):=by
 rw [bH,dif_neg (by omega)];rfl
theorem uE (l:Int)(q:Nat):0<=cnt l q:=by
 unfold cnt;exact Int.mul_nonneg (by omega) (Int.le_of_lt (pow_pos _))
theorem gO (s:CSt):0<=lY s:=by
 match s with
 | none=>exact Int.le_refl _
 | some (b,l,q)=>exact uE l q
theorem aOi (a en l:Int)(hl:5<=l)(hl2:l<=14)(ha:0<=a)(ha2:a<262144):qOf a en l<256:=by
 obtain ⟨g1,g2,g3,g4,g5,g6,g7⟩:=oX a l _ _ hl hl2 rfl rfl ha ha2;unfold qOf;split
 .split<;>omega
 .split
  .apply lB _ g5<;>(unfold jOf;omega)
  .omega
theorem oO (a en:Int)(ha:0<=a)(ha2:a<262144):∀ n:Nat,n<=10->aO7 (bH a en n) (5+n)
 | 0,_=>fun b l q h=>by rw [dN] at h;cases h
 | n+1,hn=>by
   have ih:=oO a en ha ha2 n (by omega);intro b l q h;rw [dM] at h;unfold keep at h;split at h
   .rename_i hlt;simp at h;obtain ⟨rfl,rfl,rfl⟩:=h;refine ⟨by omega,by omega,aOi a en _ (by omega) (by omega) ha ha2,?_⟩;have:=gO (bH a en n);omega
   .obtain ⟨k1,k2,k3,k4⟩:=ih b l q h;exact ⟨k1,by omega,k3,k4⟩
theorem aDg (a en:Int)(w:qw)(ha:0<=a)(hae:a<en)(hen:en<=262144)(b l:Int)(q:Nat)(hF:bH a en 10=some (b,l,q)):
 qC 252 #[qI a,qI en] w (qB w (.agg #[qI b,qI l,qI (255-(q:Int)),.bool false,.bool false,.bool false])):=by
 have HF:=zh hF;clear hF;have HA:=zh (xA ha (xA hae hen));go_enter func252,ntmps252
 go_wp2;go_loopw [6] (fun x wr=>∃ n:Nat,n<=10/\x=qI (5+(n:Int))/\gU wr (w.heap.size+1) (bH a en n)/\Blk wr w.heap.size #[qI 0,qI 0,qI 0,.bool false,.bool false,.bool false] 214/\qY w wr) (qf 15)
 .refine ⟨0,by omega,rfl,?_,?_,?_⟩
  .rw [dN];have:=Blk.new (w.alloc (.cells #[qI 0,qI 0,qI 0,.bool false,.bool false,.bool false] 214)) #[.func (Fn.func 262) #[] #[],.bool false,qI 0,qI 0,qI 0,.bool false,.bool false,.bool false] 281;try unfold qY at *
   simp only [xF] at this;exact this
  .exact (Blk.new w _ _).alloc _
  .exact bal.alloc (by simp) _
 .obtain ⟨n,hn,rfl,hH,hZ,hB⟩:=hrel;have HH:=zh hH;have HB:=zh hB;have HZ:=zh hZ;clear hH hB hZ;by_cases hlt:n<10
  .have hsz:=HB.o.size;have HC:=zh (vC (w.heap.size+1) (bH a en n) a en (5+(n:Int)) _ _ _ (cI a (5+(n:Int))) wr (by omega) (by omega) ha hae hen (oO a en ha (by omega) n (by omega)) (gO _) rfl rfl rfl (oX a (5+(n:Int)) _ _ (by omega) (by omega) rfl rfl ha (by omega)).2.2.2.2.2.2 HH.o);go_wp2_with fail
   refine HC.o.mono ?_;rintro e w1 ⟨rfl,⟨s',hs',hb'⟩,t1⟩;have hk:=aDd _ _ a en (5+(n:Int)) _ _ (by omega) (by omega) rfl rfl ha hae hen (gO _) hb';have H1:=zh (show gU w1 (w.heap.size+1) (bH a en (n+1)) from by rw [hk] at hs';rw [dM];exact hs');have Z1:=zh (aF t1 HZ.o (by omega));have B1:=zh (aG HB.o t1 (fun k e=>by omega) hsz);clear hk hs' hb' t1 HC;go_wp2_with fail
   go_roundw
   .exact ⟨n+1,by omega,by go_num,H1.o,Z1.o,B1.o⟩
   .simp [qf,intOf];omega
  .have hn10:n=10:=by omega
   subst hn10;rw [HF.o] at HH;have HC:=zh (Bst.cells HH.o);obtain ⟨q1,q2,q3,q4,q5,q6,q7,q8,q9⟩:=HC.o;obtain ⟨p1,p2,p3,p4,p5,p6,p7⟩:=HZ.o.six';have HK:=zh (Blk.set (Blk.set (Blk.set (Blk.set (Blk.set (Blk.set HZ.o 0 (qI b)) 1 (qI l)) 2 (qI (255-(q:Int)))) 3 (.bool false)) 4 (.bool false)) 5 (.bool false));go_wp2;refine bodyPost_ret (results_cell_row rfl _ _ w.heap.size 214 #[qI b,qI l,qI (255-(q:Int)),.bool false,.bool false,.bool false] (0,0) _ rfl (by exact HK.o) underlying214 rfl (by kernel_rfl)) rfl ⟨rfl,?_⟩;exact (((((HB.o.setCell aN _).setCell aN _).setCell aN _).setCell aN _).setCell aN _).setCell aN _
theorem aOj (l:Int)(hl:8<=l)(hl2:l<=14):(32:Int) ∣ (2:Int)^(l-3).toNat:=by
 have:l=8\/l=9\/l=10\/l=11\/l=12\/l=13\/l=14:=by omega
 rcases this with rfl|rfl|rfl|rfl|rfl|rfl|rfl<;>decide
theorem aL1 (l:Int)(hl:5<=l)(hl2:l<=14):(32:Int) ∣ (2:Int)^l.toNat:=by
 have:l=5\/l=6\/l=7\/l=8\/l=9\/l=10\/l=11\/l=12\/l=13\/l=14:=by omega
 rcases this with rfl|rfl|rfl|rfl|rfl|rfl|rfl|rfl|rfl|rfl<;>decide
theorem zR (a en l:Int)(hl:5<=l)(hl2:l<=14)(ha:0<=a)(hae:a<en)(hen:en<=262144):a+cnt l (qOf a en l)<=en/\(32:Int) ∣ cnt l (qOf a en l):=by
 obtain ⟨P,hP⟩:∃ P,(2:Int)^(l-3).toNat=P:=⟨_,rfl⟩;obtain ⟨N,hN⟩:∃ N,(2:Int)^l.toNat=N:=⟨_,rfl⟩;obtain ⟨g1,g2,g3,g4,g5,g6,g7⟩:=oX a l P N hl hl2 hP hN ha (by omega);have h0:a+cnt l 0<=en/\(32:Int) ∣ cnt l 0:=by rw [uD];exact ⟨by omega,Int.dvd_zero _⟩
 by_cases h8:l<8
 .by_cases hc:a%N=0/\a+N<=en
  .have e:qOf a en l=255:=by unfold qOf;rw [if_pos h8,hN,if_pos hc]
   have e2:cnt l 255=N:=by unfold cnt;rw [hP,show rS 255=8 from rfl,g1];rfl
   rw [e,e2];refine ⟨hc.2,?_⟩;rw [<- hN];exact aL1 l hl hl2
  .have e:qOf a en l=0:=by unfold qOf;rw [if_pos h8,hN,if_neg hc]
   rw [e];exact h0
 .by_cases hm:a%P=0
  .have e:qOf a en l=bK (cI a l) (jOf a en l):=by unfold qOf;rw [if_neg h8,hP,if_pos hm]
   have hj:((jOf a en l:Nat):Int)<=(en-a)/P/\cI a l+jOf a en l<=8:=by
    have:0<=(en-a)/P:=Int.ediv_nonneg (by omega) (by omega);unfold jOf;rw [hP];omega
   rw [e,nH l P hP _ _ g5 hj.2];have:=Int.mul_le_of_le_ediv (by omega) hj.1;refine ⟨by omega,?_⟩;rw [<- hP];exact Int.dvd_mul_of_dvd_right (aOj l (by omega) hl2)
  .have e:qOf a en l=0:=by unfold qOf;rw [if_neg h8,hP,if_neg hm]
   rw [e];exact h0
theorem jG (a en:Int)(ha:0<=a)(hae:a<en)(hen:en<=262144):∀ n:Nat,n<=10->∀ b l q,bH a en n=some (b,l,q)->5<=l/\l<=14/\b=aZ a l/\q=qOf a en l
 | 0,_=>fun b l q h=>by rw [dN] at h;cases h
 | n+1,hn=>by
   have ih:=jG a en ha hae hen n (by omega);intro b l q h;rw [dM] at h;unfold keep at h;split at h
   .simp at h;obtain ⟨rfl,rfl,rfl⟩:=h;exact ⟨by omega,by omega,rfl,rfl⟩
   .exact ih b l q h
theorem pE (a en:Int)(ha:0<=a)(hae:a+32<=en)(ha32:a%32=0):∀ n:Nat,∃ x,bH a en (n+1)=some x
 | 0=>by
   have e:qOf a en 5=255:=by
    unfold qOf;rw [if_pos (by omega),if_pos];exact ⟨ha32,hae⟩
   refine ⟨(aZ a 5,5,255),?_⟩;rw [dM,dN];show keep none (aZ a 5) 5 (qOf a en 5)=_;rw [e];rfl
 | n+1=>by
   obtain ⟨x,hx⟩:=pE a en ha hae ha32 n;rw [dM];unfold keep;split
   .exact ⟨_,rfl⟩
   .exact ⟨x,hx⟩
theorem aK3 (a en:Int)(ha:0<=a)(hae:a<en)(hen:en<=262144)(ha32:a%32=0)(he32:en%32=0):
 ∃ b l q,bH a en 10=some (b,l,q)/\5<=l/\l<=14/\q<256/\32<=cnt l q/\a+cnt l q<=en/\cnt l q%32=0/\b=aZ a l/\q=qOf a en l:=by
 obtain ⟨⟨b,l,q⟩,hx⟩:=pE a en ha (by omega) ha32 9;obtain ⟨k1,k2,k3,k4⟩:=jG a en ha hae hen 10 aN b l q hx;obtain ⟨m1,m2,m3,m4⟩:=oO a en ha (by omega) 10 aN b l q hx;obtain ⟨c1,c2⟩:=zR a en l k1 k2 ha hae hen;rw [<- k4] at c1 c2;exact ⟨b,l,q,hx,k1,k2,m3,by omega,c1,by omega,k3,k4⟩
def aE0 (s:CSt)(next:Int->List Rg)(a:Int):List Rg:=
 match s with
 | some (b,l,q)=>(b,l,255-(q:Int),false,false,false)::next (a+cnt l q)
 | none=>[]
def fM (en:Int):Nat->Int->List Rg
 | 0,_=>[]
 | n+1,a=>if a<en then aE0 (bH a en 10) (fM en n) a else []
theorem tY (en:Int)(n:Nat)(a:Int)(h:¬ a<en):fM en n a=[]:=by
 cases n with
 | zero=>rfl
 | succ n=>exact if_neg h
theorem pD (en:Int)(n:Nat)(a b l:Int)(q:Nat)(h:a<en)(hF:bH a en 10=some (b,l,q)):fM en (n+1) a=(b,l,255-(q:Int),false,false,false)::fM en n (a+cnt l q):=by
 have e:fM en (n+1) a=aE0 (bH a en 10) (fM en n) a:=if_pos h;rw [e,hF];rfl
def grn (x:Int):Bool:=decide (0<=x/\x%32=0)
theorem eO (x:Int)(w:qw):
 qC 226 #[qI x] w fun e w'=>e=.returned (.bool (grn x))/\w=w':=by
 by_cases h:0<=x
 .have HG:=zh (show grn x=decide (x%32=0) from by unfold grn;simp [h]);go_enter func226,ntmps226
  go_wp2;go_ret;refine ⟨aA ?_,rfl⟩;rw [HG.o];rw [xJ];simp
 .have HG:=zh (show grn x=false from by unfold grn;simp;omega);go_enter func226,ntmps226
  go_wp2;go_ret;exact ⟨aA HG.o.symm,rfl⟩
def mJ (w:qw)(ok:Bool)(L:List Rg)(e:Ending)(w':qw):Prop:=
 ∃ (x:qO) (m cap:Nat),e=.returned (.tuple #[qS x m cap,.bool ok])/\ORg w' w.heap.size (qS x m cap) L/\qY w w'
theorem qF (w:qw)(base:Nat):ORg w base (qS none 0 0) []:=⟨⟨rfl,.inl ⟨rfl,rfl⟩⟩,fun _ h=>by cases h⟩
def pW (f s:Int):Bool:=grn f&&grn s&&decide (s<=262144-f)
def pF (f s:Int):List Rg:=fM (f+s) (s/32).toNat f
set_option maxRecDepth 100000 in
theorem aCv (f s:Int)(w:qw)(hf:0<=f)(hf32:f%32=0)(hs:0<=s)(hs32:s%32=0)(hfs:s<=262144-f):
 qC 235 #[qI f,qI s] w (mJ w true (pF f s)):=by
 obtain ⟨i0,hi,hz0,hz1,hz2⟩:=info_parts aF7;have G1:=zh (eO f);have G2:=zh (eO s);have e1:grn f=true:=by unfold grn;simp;omega
 have e2:grn s=true:=by unfold grn;simp;omega
 rw [e1] at G1;rw [e2] at G2;clear e1 e2;obtain ⟨L,hL⟩:=eqx (pF f s);rw [<- hL];unfold pF at hL;have HL:=zh hL;clear hL;go_enter func235,ntmps235
 go_wp2_with fail
 refine (G1.o w).mono ?_;rintro e w1 ⟨rfl,rfl⟩;go_wp2_with fail
 refine (G2.o w).mono ?_;rintro e w1 ⟨rfl,rfl⟩;go_wp2_with fail
 go_loopw [6,8] (fun r x wr=>∃ (A:qO) (m cap:Nat) (rs:List Rg) (n:Nat) (a:Int),r=qS A m cap/\x=qI a/\f<=a/\a<=f+s/\a%32=0/\f+s-a<=32*(n:Int)/\m+n<=8192/\ORg wr w.heap.size (qS A m cap) rs/\L=rs++fM (f+s) n a/\qY w wr) (fun _ x _=>(f+s-intOf x).toNat)
 .exact ⟨none,0,0,[],(s/32).toNat,f,rfl,rfl,by omega,by omega,hf32,by omega,by omega,qF _ _,by rw [HL.o];rfl,brf⟩
 .obtain ⟨A,m,cap,rs,n,a,rfl,rfl,ha,ha2,ha32,hn,hmn,hO,hLL,hB⟩:=hrel;have hlen:=(eZ hO).1;by_cases hlt:a<f+s
  .obtain ⟨b,l,q,hF,hl,hl2,hq,hc1,hc2,hc3,hb,_⟩:=aK3 a (f+s) (by omega) hlt (by omega) ha32 (by omega);obtain ⟨n,rfl⟩:∃ n',n=n'+1:=⟨n-1,by omega⟩;rw [pD (f+s) n a b l q hlt hF] at hLL
   have hbw:0<=b/\b<=262144:=by
    have:=lI a l _ hl hl2 rfl;have:=pow_pos l.toNat;rw [hb];unfold aZ;omega
   clear hb;have HW:=zh (aDg a (f+s) wr (by omega) hlt (by omega) b l q hF);have HLL:=zh hLL;have HO:=zh hO;have HB:=zh hB;have HC:=zh (eJ b l q false false false);have HLEN0:=zh hlen;have hsz:=hB.size;obtain ⟨c,hcc⟩:=eqx (cnt l q);rw [<- hcc] at hc1 hc2 hc3 HC HLL;have HCC:=zh hcc;have HWF:=zh (show wfi b/\wfi l/\wfi (255-(q:Int)) from by unfold wfi;omega);have HQ:=zh hq;clear hLL hO hB hF hlen hcc;go_wp2_with fail
   refine HW.o.mono ?_;rintro e w2 ⟨rfl,hb2⟩;have HB2:=zh (HB.o.trans (hb2.mono hsz));obtain ⟨o,ho⟩:=eqx (255-(q:Int));rw [<- ho] at HC HLL HWF ⊢;have hO2:=yP (S:=fun _=>False) (aJ hb2) HO.o (fun _ _=>id);have hO3:=hO2.1.alloc (.cells #[qI b,qI l,qI o,.bool false,.bool false,.bool false] 214);have HOWN:=zh (hO3.alloc (.cells #[qI b,qI l,qI o,.bool false,.bool false,.bool false] 214));rw [HLEN0.o] at HOWN;have HLEN:Zh ((dA (b,l,o,false,false,false)).length=1*6):=rfl;have HNEWS:=zh (aJs (w2.alloc (.cells #[qI b,qI l,qI o,.bool false,.bool false,.bool false] 214)) (b,l,o,false,false,false));have HONE:=zh (aL8 (b,l,o,false,false,false));have HRS:=zh hO2.2;have HLT:=zh hO2.1.lt;have KB:=zh ((Blk.new w2 #[qI b,qI l,qI o,.bool false,.bool false,.bool false] 214).alloc (.cells #[qI b,qI l,qI o,.bool false,.bool false,.bool false] 214));have hsz2:=hb2.size;have HB3:=zh ((HB2.o.alloc (by omega) (.cells #[qI b,qI l,qI o,.bool false,.bool false,.bool false] 214)).alloc (by simp;omega) (.cells #[qI b,qI l,qI o,.bool false,.bool false,.bool false] 214));try unfold qY at *
   simp only [xF] at HNEWS;clear hO2 hO3 hb2 ho;go_wp2_with (at_builtin;refine wpList_append_own _ rfl _ _ 108 rfl w.heap.size 214 i0 (.agg #[qI 0,qI 0,qI 0,.bool false,.bool false,.bool false]) 6 32 underlying108 hi hz0 hz1 hz2 rfl (by decide) (qS A m cap) m (dO rs) rfl HOWN.o (qR (w2.heap.size+1) 0) 1 1 (dA (b,l,o,false,false,false)) rfl HLEN.o HNEWS.o HONE.o (by unfold maxLen;omega) (by omega) (by simp;omega) ?_;intro v' w3 hown3 hgr3 _;obtain ⟨A',cap',he⟩:=mT hown3;subst he;have hO3:=aAb (W:=w2) (v:=qS A m cap) (g:=(b,l,o,false,false,false)) HRS.o HWF.o (by rw [HLEN0.o];exact hown3);have t3:=jD hgr3;have hfar:∀ j,(qS A m cap).ownBlock=some j->w.heap.size<=j:=fun j hj=>(HLT.o j hj).1;have hnot:∀ j,(qS A m cap).ownBlock=some j->j<w2.heap.size:=fun j hj=>(HLT.o j hj).2;have hK3:=aF t3 KB.o (fun e=>by have:=hnot _ e;omega);have hsz3:=t3.size;simp only [xF] at hsz3;have HB4:=zh (aG HB3.o t3 hfar (by simp;omega));have HO3:=zh hO3;have HK3:=zh hK3;obtain ⟨q1,q2,q3,q4,q5,q6,q7⟩:=hK3.six';clear hO3 t3 hfar hnot hown3 hgr3 hK3)
   refine (HC.o w3 HQ.o hl hl2).mono ?_;rintro e w4 ⟨rfl,hb4⟩;have HB5:=zh (HB4.o.trans (hb4.mono (by omega)));have HO5:=zh (yP (S:=fun _=>False) (aJ hb4) HO3.o (fun _ _=>id));clear hb4;go_wp2_with fail
   go_roundw
   .exact ⟨A',m+1,cap',rs++[(b,l,o,false,false,false)],n,a+c,rfl,by go_num,by omega,by omega,by omega,by omega,by omega,HO5.o,by rw [HLL.o];simp,HB5.o⟩
   .simp [intOf];omega
  .have hLe:L=rs:=by rw [hLL,tY _ _ _ hlt,List.append_nil]
   subst hLe;have HO:=zh hO;have HB:=zh hB;clear hLL hO hB;go_wp2
   go_ret2
   exact ⟨A,m,cap,rfl,HO.o,HB.o⟩
theorem aEr (f s:Int)(w:qw)(hs0:-9223372036854775808<=f/\f<=9223372036854775807)(h:pW f s=false):
 qC 235 #[qI f,qI s] w (mJ w false []):=by
 have G1:=zh (eO f);have G2:=zh (eO s);have HN:=zh (qF w w.heap.size);unfold pW at h;cases e1:grn f
 .rw [e1] at G1;clear h e1;go_enter func235,ntmps235
  go_wp2_with fail
  refine (G1.o w).mono ?_;rintro e w1 ⟨rfl,rfl⟩;go_wp2_with fail
  go_ret2
  exact ⟨none,0,0,rfl,HN.o,brf⟩
 .rw [e1] at G1 h;have hf:0<=f:=by unfold grn at e1;simp at e1;omega
  cases e2:grn s
  .rw [e2] at G2;clear h e1 e2;go_enter func235,ntmps235
   go_wp2_with fail
   refine (G1.o w).mono ?_;rintro e w1 ⟨rfl,rfl⟩;go_wp2_with fail
   refine (G2.o w).mono ?_;rintro e w1 ⟨rfl,rfl⟩;go_wp2_with fail
   go_ret2
   exact ⟨none,0,0,rfl,HN.o,brf⟩
  .rw [e2] at G2 h;have hlt:262144-f<s:=by simp at h;omega
   clear h e1 e2;go_enter func235,ntmps235
   go_wp2_with fail
   refine (G1.o w).mono ?_;rintro e w1 ⟨rfl,rfl⟩;go_wp2_with fail
   refine (G2.o w).mono ?_;rintro e w1 ⟨rfl,rfl⟩;go_wp2_with fail
   go_ret2
   exact ⟨none,0,0,rfl,HN.o,brf⟩
def cvL (f s:Int):List Rg:=if pW f s then pF f s else []
theorem aEs (f s:Int)(w:qw)(hs0:-9223372036854775808<=f/\f<=9223372036854775807):
 qC 235 #[qI f,qI s] w (mJ w (pW f s) (cvL f s)):=by
 unfold cvL;cases e:pW f s
 .exact aEr f s w hs0 e
 .unfold pW grn at e;simp at e;exact aCv f s w (by omega) (by omega) (by omega) (by omega) (by omega)
def ci (i0 j i:Nat):Nat:=min (i-i0) j
theorem aO3:∀ (i0:Fin 8) (j:Fin 9) (i:Fin 8),(i0.val<=i.val/\i.val<i0.val+j.val)->(ci i0 j (i.val+1)=ci i0 j i+1/\2^i.val-1-bK i0 (ci i0 j i)=2^(i.val+1)-1-bK i0 (ci i0 j (i.val+1))):=by decide +kernel
theorem aM4:∀ (i0:Fin 8) (j:Fin 9) (i:Fin 8),((i.val<i0.val\/i0.val+j.val<=i.val)/\i0.val+j.val<=8)->(ci i0 j (i.val+1)=ci i0 j i/\2^i.val-1-bK i0 (ci i0 j i)+2^i.val=2^(i.val+1)-1-bK i0 (ci i0 j (i.val+1))):=by decide +kernel
theorem aPv (i0:Nat)(h0:i0<8)(j:Nat)(hj:j<9)(i:Nat)(hi:i<8)(h:i0<=i/\i<i0+j):ci i0 j (i+1)=ci i0 j i+1/\2^i-1-bK i0 (ci i0 j i)=2^(i+1)-1-bK i0 (ci i0 j (i+1)):=aO3 ⟨i0,h0⟩ ⟨j,hj⟩ ⟨i,hi⟩ h
theorem aO2 (i0:Nat)(h0:i0<8)(j:Nat)(hj:j<9)(i:Nat)(hi:i<8)(h:(i<i0\/i0+j<=i)/\i0+j<=8):ci i0 j (i+1)=ci i0 j i/\2^i-1-bK i0 (ci i0 j i)+2^i=2^(i+1)-1-bK i0 (ci i0 j (i+1)):=aM4 ⟨i0,h0⟩ ⟨j,hj⟩ ⟨i,hi⟩ h
theorem aK2:∀ i0,i0<8->∀ j,j<9->i0+j<=8->ci i0 j 8=j:=by decide +kernel
def jj (a en l:Int):Nat:=if a%(2:Int)^(l-3).toNat=0 then jOf a en l else 0
theorem aJc (a en l:Int)(h:8<=l):qOf a en l=bK (cI a l) (jj a en l):=by
 unfold qOf jj;rw [if_neg (by omega)];split
 .rfl
 .rw [wF]
theorem aPs (a en l:Int)(hi:cI a l<8):cI a l+jj a en l<=8:=by
 unfold jj;split
 .unfold jOf;omega
 .omega
theorem aL4 (a en l P N:Int)(hl:5<=l)(hl2:l<=14)(hP:(2:Int)^(l-3).toNat=P)(hN:(2:Int)^l.toNat=N)(ha:0<=a)(hae:a<en)(hen:en<=262144)(i:Nat)(hi:i<8):
 (a<=aZ a l+(i:Int)*P/\aZ a l+(i:Int)*P+P<=en/\a%P=0) ↔ (cI a l<=i/\i<cI a l+jj a en l):=by
 obtain ⟨g1,g2,g3,g4,g5,g6,g7⟩:=oX a l P N hl hl2 hP hN ha (by omega);unfold jj;rw [hP];by_cases hm:a%P=0
 .rw [if_pos hm];have hb:aZ a l=a-a%N:=by unfold aZ;rw [hN]
  have g6':=g6 hm;have hd0:0<=(en-a)/P:=Int.ediv_nonneg (by omega) (by omega)
  have e1:(a<=aZ a l+(i:Int)*P) ↔ cI a l<=i:=by
   rw [hb,g6'];constructor
   .intro h;have:(cI a l:Int)*P<=(i:Int)*P:=by omega
    have:=Int.le_of_mul_le_mul_right this (by omega);omega
   .intro h;have:(cI a l:Int)*P<=(i:Int)*P:=Int.mul_le_mul_of_nonneg_right (by omega) (by omega);omega
  have e2:cI a l<=i->((aZ a l+(i:Int)*P+P<=en) ↔ ((i-cI a l:Nat):Int)<(en-a)/P):=by
   intro h;rw [hb,g6'];have e3:((i-cI a l:Nat):Int)=(i:Int)-(cI a l:Int):=by omega
   have e4:(((i:Int)-(cI a l:Int))+1)*P=(i:Int)*P-(cI a l:Int)*P+P:=by rw [Int.add_mul,Int.sub_mul];omega
   rw [e3];constructor
   .intro h;have:=Int.le_ediv_of_mul_le (c:=P) (a:=(i:Int)-(cI a l:Int)+1) (b:=en-a) (by omega) (by omega);omega
   .intro h;have:(i:Int)-(cI a l:Int)+1<=(en-a)/P:=by omega
    have:=Int.mul_le_of_le_ediv (by omega) this;omega
  have e5:jOf a en l=min (8-cI a l) ((en-a)/P).toNat:=by unfold jOf;rw [hP]
  rw [e5,e1];constructor
  .rintro ⟨h1,h2,_⟩;have:=(e2 h1).1 h2;omega
  .rintro ⟨h1,h2⟩;exact ⟨h1,(e2 h1).2 (by omega),hm⟩
 .rw [if_neg hm];constructor
  .rintro ⟨_,_,h⟩;exact absurd h hm
  .intro h;omega
theorem nF (a N:Int)(h0:0<=a)(hN:0<N):a/N*N=a-a%N:=by
 have:=Int.mul_ediv_add_emod a N;rw [Int.mul_comm];omega
def aBh (w:qw)(b l c:Int)(q:Nat)(e:Ending)(w':qw):Prop:=
 ∃ o:Int,e=.returned (.tuple #[.agg #[qI b,qI l,qI o,.bool false,.bool false,.bool false],qI c])/\(0<c->o=255-(q:Int))/\qY w w'
theorem aBc (w W:qw)(tmps:Array Value)(b l o c:Int)(q:Nat)(h6:tmps[6]?=some (.pointer (qP w.heap.size)))(h7:tmps[7]?=some (qI c))
 (hz:Blk W w.heap.size #[qI b,qI l,qI o,.bool false,.bool false,.bool false] 214) (hB:qY w W) (ho:0<c->o=255-(q:Int)):
 bodyPost prog f225 (aBh w b l c q) Exit.ret ⟨tmps,[]⟩ W:=by
 refine bodyPost_ret (v:=.tuple #[.agg #[qI b,qI l,qI o,.bool false,.bool false,.bool false],qI c]) ?_ rfl ⟨o,rfl,ho,hB⟩;obtain ⟨p1,p2,p3,p4,p5,p6,p7⟩:=hz.six';simp [results,results225,go_sem,h6,h7,p1,p2,p3,p4,p5,p6]
theorem aBb {w2:qw}(hz:Blk w2 g #[qI 0,qI 0,qI 0,.bool false,.bool false,.bool false] 214)(b l o:Int):
 Blk ((((((w2.setCell (qR g 0) (qI b)).setCell (qR g 1) (qI l)).setCell (qR g 2) (qI o)).setCell (qR g 3) (.bool false)).setCell (qR g 4) (.bool false)).setCell (qR g 5) (.bool false)) g #[qI b,qI l,qI o,.bool false,.bool false,.bool false] 214:=
 Blk.set (Blk.set (Blk.set (Blk.set (Blk.set (Blk.set hz 0 _) 1 _) 2 _) 3 _) 4 _) 5 _
theorem kS {w w2:qw}(hg:B<=g)(h:Below B w w2)(b l o:Int):
 Below B w ((((((w2.setCell (qR g 0) (qI b)).setCell (qR g 1) (qI l)).setCell (qR g 2) (qI o)).setCell (qR g 3) (.bool false)).setCell (qR g 4) (.bool false)).setCell (qR g 5) (.bool false)):=
 (((((h.setCell hg _).setCell hg _).setCell hg _).setCell hg _).setCell hg _).setCell hg _
theorem vK (a s l:Int)(w:qw)(hl:5<=l)(hl2:l<8)(ha:0<=a)(hs:0<s)(has:a+s<=262144):
 qC 225 (qT l a s) w (aBh w (aZ a l) l (cnt l (qOf a (a+s) l)) (qOf a (a+s) l)):=by
 obtain ⟨P,hP⟩:∃ P,(2:Int)^(l-3).toNat=P:=⟨_,rfl⟩;obtain ⟨N,hN⟩:∃ N,(2:Int)^l.toNat=N:=⟨_,rfl⟩;obtain ⟨g1,g2,g3,g4,g5,g6,g7⟩:=oX a l P N hl (by omega) hP hN ha (by omega);obtain ⟨b0,b1,b2,b3,b4⟩:=lI a l N hl (by omega) hN ha;have hdm:=nF a N ha (by omega);obtain ⟨b,hb⟩:=eqx (a-a%N);have hbo:aZ a l=b:=by unfold aZ;rw [hN,hb]
 rw [<- hb] at b0 b1 b2 hdm;have HP2:=zh (fun w=>fB l (by omega) (by omega) w);rw [hN] at HP2;have hwf:(Lit.int .i64 b).wf=true:=by simp [Lit.wf,IntKind.min,IntKind.max,IntKind.bits,IntKind.signed];omega
 have HR:=zh (fun w=>lO b l 0 false false false w hwf);have hrok:rok b l 0=true:=by unfold rok;rw [hN];simp;omega
 rw [hrok] at HR;rw [hbo]
 have h8:8*P<=1024:=by
  have:l=5\/l=6\/l=7:=by omega
  rcases this with rfl|rfl|rfl<;>(simp at hP;omega)
 have HE:=zh (show ∀ c:Bool,(c=true ↔ (a=b/\N<=s))->qOf a (a+s) l=(if c then 255 else 0)/\cnt l (qOf a (a+s) l)=(if c then N else 0) from by
  intro c hc
  have e:qOf a (a+s) l=(if c then 255 else 0):=by
   unfold qOf;rw [if_pos hl2,hN];cases c
   .rw [if_neg (by simp at hc;omega)];rfl
   .have:=hc.1 rfl;rw [if_pos (by omega)];rfl
  refine ⟨e,?_⟩;rw [e];cases c
  .exact uD l
  .show cnt l 255=N;unfold cnt;rw [hP,show rS 255=8 from rfl,g1]
   rfl)
 have hN1:N<=1024:=by omega
 have hN0:0<N:=by omega
 clear hP hN g1 g2 g3 g4 g5 g6 g7 hrok hbo h8 b2 b3 b4 hb hwf;go_enter func225,ntmps225
 go_wp2_with fail
 refine (HP2.o _).mono ?_;rintro e w1 ⟨rfl,rfl⟩;go_wp2_with fail
 refine (HR.o _).mono ?_;rintro e w2 ⟨rfl,hb2⟩;have kz:=((Blk.new w #[qI 0,qI 0,qI 0,.bool false,.bool false,.bool false] 214).alloc (.cells #[qI b,qI l,qI 0,.bool false,.bool false,.bool false] 214)).bw hb2;have kr:=(Blk.new (w.alloc (.cells #[qI 0,qI 0,qI 0,.bool false,.bool false,.bool false] 214)) #[qI b,qI l,qI 0,.bool false,.bool false,.bool false] 214).bw hb2;try unfold qY at *
 simp only [xF] at kr;have HB2:=zh ((((Below.refl w.heap.size w).alloc aN (.cells #[qI 0,qI 0,qI 0,.bool false,.bool false,.bool false] 214)).alloc (by simp) (.cells #[qI b,qI l,qI 0,.bool false,.bool false,.bool false] 214)).trans (hb2.mono (by simp;omega)));obtain ⟨q1,q2,q3,q4,q5,q6,q7⟩:=kz.six';obtain ⟨p1,p2,p3,p4,p5,p6,p7⟩:=kr.six';have KZ:=zh kz;clear kz kr hb2;by_cases hba:b=a
 .subst hba;by_cases hNs:s<N
  .obtain ⟨x1,x2⟩:=HE.o false (by simp;omega);have X:=zh (xA x1 x2);clear x1 x2 HE;go_wp2_with fail
   rw [X.o.2,X.o.1];exact aBc w _ _ b l 0 0 0 rfl rfl (aBb KZ.o b l 0) (kS aN HB2.o b l 0) (fun h=>absurd h (by omega))
  .obtain ⟨x1,x2⟩:=HE.o true (by simp;omega);have X:=zh (xA x1 x2);clear x1 x2 HE;go_wp2_with fail
   rw [X.o.2,X.o.1];exact aBc w _ _ b l 0 N 255 rfl rfl (aBb KZ.o b l 0) (kS aN HB2.o b l 0) (fun _=>rfl)
 .obtain ⟨x1,x2⟩:=HE.o false (by simp;omega);have X:=zh (xA x1 x2);have hba':(b !=a)=true:=by simpa using hba
  clear x1 x2 HE hba;go_wp2_with fail
  rw [X.o.2,X.o.1];exact aBc w _ _ b l 0 0 0 rfl rfl (aBb KZ.o b l 0) (kS aN HB2.o b l 0) (fun h=>absurd h (by omega))
theorem aCr (a s l:Int)(w:qw)(hl:8<=l)(hl2:l<=14)(ha:0<=a)(hs:0<s)(has:a+s<=262144):
 qC 225 (qT l a s) w (aBh w (aZ a l) l (cnt l (qOf a (a+s) l)) (qOf a (a+s) l)):=by
 obtain ⟨P,hP⟩:∃ P,(2:Int)^(l-3).toNat=P:=⟨_,rfl⟩;obtain ⟨N,hN⟩:∃ N,(2:Int)^l.toNat=N:=⟨_,rfl⟩;obtain ⟨g1,g2,g3,g4,g5,g6,g7⟩:=oX a l P N (by omega) (by omega) hP hN ha (by omega);obtain ⟨b0,b1,b2,b3,b4⟩:=lI a l N (by omega) (by omega) hN ha;have hdm:=nF a N ha (by omega);have hjle:=aPs a (a+s) l g5;have HIN:=zh (aL4 a (a+s) l P N (by omega) hl2 hP hN ha (by omega) has)
 have HQ:=zh (show qOf a (a+s) l=bK (cI a l) (jj a (a+s) l)/\cnt l (qOf a (a+s) l)=(jj a (a+s) l:Int)*P from by
  have e:=aJc a (a+s) l hl;refine ⟨e,?_⟩;rw [e]
  exact nH l P hP _ _ g5 hjle)
 obtain ⟨b,hb⟩:=eqx (a-a%N);have hbo:aZ a l=b:=by unfold aZ;rw [hN,hb]
 rw [<- hb] at b0 b1 b2 hdm;have HP2:=zh (fun w=>fB l (by omega) (by omega) w);rw [hN] at HP2;have hwf:(Lit.int .i64 b).wf=true:=by simp [Lit.wf,IntKind.min,IntKind.max,IntKind.bits,IntKind.signed];omega
 have HR:=zh (fun w=>lO b l 0 false false false w hwf);have hrok:rok b l 0=true:=by unfold rok;rw [hN];simp;omega
 rw [hrok] at HR;rw [hbo] at HIN ⊢;generalize cI a l=i0 at *;generalize jj a (a+s) l=j at *;generalize qOf a (a+s) l=q at *;have hd8:N/8=P:=by omega
 have hN1:N<=16384:=by omega
 have hN0:0<N:=by omega
 clear hP hN g1 g4 g6 g7 hrok hbo b2 b3 b4 hb hwf;go_enter func225,ntmps225
 go_wp2_with fail
 refine (HP2.o _).mono ?_;rintro e w1 ⟨rfl,rfl⟩;go_wp2_with fail
 refine (HR.o _).mono ?_;rintro e w2 ⟨rfl,hb2⟩;have kz:=((Blk.new w #[qI 0,qI 0,qI 0,.bool false,.bool false,.bool false] 214).alloc (.cells #[qI b,qI l,qI 0,.bool false,.bool false,.bool false] 214)).bw hb2;have kr:=(Blk.new (w.alloc (.cells #[qI 0,qI 0,qI 0,.bool false,.bool false,.bool false] 214)) #[qI b,qI l,qI 0,.bool false,.bool false,.bool false] 214).bw hb2;try unfold qY at *
 simp only [xF] at kr;have HB2:=zh ((((Below.refl w.heap.size w).alloc aN (.cells #[qI 0,qI 0,qI 0,.bool false,.bool false,.bool false] 214)).alloc (by simp) (.cells #[qI b,qI l,qI 0,.bool false,.bool false,.bool false] 214)).trans (hb2.mono (by simp;omega)));have KZ:=zh kz;have KR:=zh kr;clear kz kr hb2;go_wp2_with fail
 rw [hd8];have b1':b<=262144:=by omega
 clear hd8 hdm b1 hN1 hN0
 have HOFF:=zh (show ∀ i,i<=8->∃ o,o=2^i-1-bK i0 (ci i0 j i)/\o<=255 from fun i hi=>⟨_,rfl,by
  have:2^i<=2^8:=Nat.pow_le_pow_right (by omega) hi
  omega⟩)
 go_loopw [12,13] (fun c x wr=>∃ (i o:Nat),i<=8/\c=qI ((ci i0 j i:Int)*P)/\x=qI (i:Int)/\o=2^i-1-bK i0 (ci i0 j i)/\Blk wr (w.heap.size+1) #[qI b,qI l,qI (o:Int),.bool false,.bool false,.bool false] 214/\Blk wr w.heap.size #[qI 0,qI 0,qI 0,.bool false,.bool false,.bool false] 214/\qY w wr) (fun _ x _=>8-(intOf x).toNat)
 .have h0:ci i0 j 0=0:=by simp [ci]
  exact ⟨0,0,by omega,by rw [h0];simp,rfl,by simp,KR.o,KZ.o,HB2.o⟩
 .obtain ⟨i,o,hi,rfl,rfl,ho,kr,kz,hB⟩:=hrel
  have ho8:o<=255:=by
   have:2^i<=2^8:=Nat.pow_le_pow_right (by omega) hi;omega
  have hci:ci i0 j i<=8:=by unfold ci;omega
  obtain ⟨c,hc⟩:∃ c:Int,c=(ci i0 j i:Int)*P:=⟨_,rfl⟩;have hc0:0<=c:=by rw [hc];exact Int.mul_nonneg (by omega) (by omega)
  have hc1:c<=16384:=by
   have:(ci i0 j i:Int)*P<=8*P:=Int.mul_le_mul_of_nonneg_right (by omega) (by omega);omega
  have HCC:=zh hc;rw [<- hc];have HOO:=zh ho;have HB:=zh hB;have KR2:=zh kr;have KZ2:=zh kz;obtain ⟨q1,q2,q3,q4,q5,q6,q7⟩:=kz.six';obtain ⟨p1,p2,p3,p4,p5,p6,p7⟩:=kr.six';clear hc ho kr kz hB HB2 KZ KR;by_cases h8:i<8
  .have hiP0:0<=(i:Int)*P:=Int.mul_nonneg (by omega) (by omega)
   have hiP1:(i:Int)*P<=16384:=by
    have:(i:Int)*P<=8*P:=Int.mul_le_mul_of_nonneg_right (by omega) (by omega);omega
   have hin:=HIN.o i h8;by_cases hp:i0<=i/\i<i0+j
   .obtain ⟨k1,k2,k3⟩:=hin.2 hp;have HN:=zh (aPv i0 g5 j (by omega) i h8 hp);clear hin hp;go_wp2_with fail
    constructor
    .exact ⟨i+1,o,by omega,by rw [HN.o.1,HCC.o];congr 1;rw [Int.natCast_add,Int.add_mul];simp,by go_num,by rw [HOO.o];exact HN.o.2,KR2.o,KZ2.o,HB.o⟩
    .simp [intOf];omega
   .have HN:=zh (aO2 i0 g5 j (by omega) i h8 ⟨by omega,hjle⟩);obtain ⟨X,hX⟩:∃ X:Nat,X=2^i:=⟨_,rfl⟩
    have hX8:X<=256:=by
     have:2^i<=2^8:=Nat.pow_le_pow_right (by omega) hi;omega
    have HP3:Zh (∀ w,qC 244 #[qI (i:Int)] w fun e w'=>e=.returned (qI (X:Int))/\w'=w):=fun w=>(fB (i:Int) (by omega) (by omega) w).mono fun e w' h=>⟨by rw [h.1,hX];simp,h.2⟩;have HX:=zh hX
    have hor:(b+(i:Int)*P<a)\/(a<=b+(i:Int)*P/\a+s<b+(i:Int)*P+P)\/(a<=b+(i:Int)*P/\b+(i:Int)*P+P<=a+s/\a%P≠0):=by
     by_cases u1:a<=b+(i:Int)*P
     .by_cases u2:b+(i:Int)*P+P<=a+s
      .exact Or.inr (Or.inr ⟨u1,u2,fun u3=>hp (hin.1 ⟨u1,u2,u3⟩)⟩)
      .exact Or.inr (Or.inl ⟨u1,by omega⟩)
     .exact Or.inl (by omega)
    clear hin hp hX
    have HREL:=zh (show ∀ W,W=(wr.setCell (qR (w.heap.size+1) 2) (qI ((o:Int)+(X:Int)))).drew->∃ (i_1 o:Nat),i_1<=8/\qI c=qI ((ci i0 j i_1:Int)*P)/\qI ((i:Int)+1)=qI (i_1:Int)/\o=2^i_1-1-bK i0 (ci i0 j i_1)/\Blk W (w.heap.size+1) #[qI b,qI l,qI (o:Int),.bool false,.bool false,.bool false] 214/\Blk W w.heap.size #[qI 0,qI 0,qI 0,.bool false,.bool false,.bool false] 214/\qY w W from by
     rintro W rfl;refine ⟨i+1,o+X,by omega,by rw [HN.o.1,HCC.o],by simp,by rw [HOO.o,HX.o];exact HN.o.2,?_,(show Blk (wr.setCell (qR (w.heap.size+1) 2) (qI ((o:Int)+(X:Int)))) _ _ _ from Blk.other KZ2.o _ _ (by simp)),(HB.o.setCell (by simp) _).drew⟩;have:=Blk.set KR2.o 2 (qI ((o:Int)+(X:Int)));rw [Int.natCast_add]
     exact this)
    have hwr:IntKind.i64.wrap ((o:Int)+(X:Int))=(o:Int)+(X:Int):=nG;rcases hor with u|⟨u1,u2⟩|⟨u1,u2,u3⟩
    .go_wp2_with fail
     go_region_with (go_at_call 244;refine (HP3.o _).mono ?_;rintro e w3 ⟨rfl,rfl⟩)
     all_goals
      try rw [hwr]
      go_wp2_with fail
      constructor
      .exact HREL.o _ rfl
      .simp [intOf];omega
    .have u2n:¬ (b+(i:Int)*P+P<=a+s):=by omega
     go_wp2_with fail
     all_goals first
      | (exfalso;omega)
      | (go_region_with (go_at_call 244;refine (HP3.o _).mono ?_;rintro e w3 ⟨rfl,rfl⟩)
         all_goals (try rw [hwr])
         all_goals go_wp2_with fail
         all_goals (refine ⟨HREL.o _ rfl,?_⟩;simp [intOf];omega))
    .have u3':(a%P==0)=false:=by simpa using u3
     clear u3;go_wp2_with fail
     go_region_with (go_at_call 244;refine (HP3.o _).mono ?_;rintro e w3 ⟨rfl,rfl⟩)
     all_goals
      try rw [hwr]
      go_wp2_with fail
      constructor
      .exact HREL.o _ rfl
      .simp [intOf];omega
  .have hi8:i=8:=by omega
   subst hi8
   have hq:(o:Int)=255-(q:Int):=by
    have:=HOO.o;rw [aK2 i0 g5 j (by omega) hjle,<- HQ.o.1] at this;have hq255:q<256:=by rw [HQ.o.1];exact lB i0 g5 j (by omega) hjle
    omega
   have hc':cnt l q=c:=by rw [HQ.o.2,HCC.o,aK2 i0 g5 j (by omega) hjle]
   have HC2:=zh hc';have HQ2:=zh hq;clear hq hc';go_wp2_with fail
   rw [HC2.o];refine aBc w _ _ b l (o:Int) c q ?_ ?_ (aBb KZ2.o b l (o:Int)) (kS aN HB.o b l (o:Int)) (fun _=>HQ2.o)
   .rfl
   .rfl
theorem aEi (a s l:Int)(w:qw)(hl:5<=l)(hl2:l<=14)(ha:0<=a)(hs:0<s)(has:a+s<=262144):
 qC 225 (qT l a s) w (aBh w (aZ a l) l (cnt l (qOf a (a+s) l)) (qOf a (a+s) l)):=by
 by_cases h:l<8
 .exact vK a s l w hl h ha hs has
 .exact aCr a s l w (by omega) hl2 ha hs has
theorem aDs (f s:Int)(w:qw)(h1:-9223372036854775808<=f/\f<=9223372036854775807)(h2:-9223372036854775808<=s/\s<=9223372036854775807)(h:pW f s=false):
 qC 209 #[qI f,qI s] w (mJ w false []):=by
 have HO:=zh (sA w w.heap.size aN);have HB:=zh ((Below.refl w.heap.size w).alloc aN (.cells #[] 214))
 have HE:=zh (show ∀ e W,W=w.alloc (.cells #[] 214)->e=Ending.returned (.tuple #[qS (qP w.heap.size) 0 0,.bool false])->mJ w false [] e W from by
  rintro e W rfl rfl
  exact ⟨_,0,0,rfl,HO.o,HB.o⟩)
 have hor:f<0\/(0<=f/\s<0)\/(0<=f/\0<=s/\262144<f)\/(0<=f/\0<=s/\f<=262144/\262144<s)\/(0<=f/\0<=s/\f<=262144/\s<=262144/\262144<f+s)\/(0<=f/\0<=s/\f<=262144/\s<=262144/\f+s<=262144/\f%32≠0)\/(0<=f/\0<=s/\f<=262144/\s<=262144/\f+s<=262144/\f%32=0/\s%32≠0):=by
  unfold pW grn at h;simp at h;omega
 clear h;rcases hor with u|⟨u1,u2⟩|⟨u1,u2,u3⟩|⟨u1,u2,u3,u4⟩|⟨u1,u2,u3,u4,u5⟩|⟨u1,u2,u3,u4,u5,u6⟩|⟨u1,u2,u3,u4,u5,u6,u7⟩
 case inr.inr.inr.inr.inr.inl=>
  have u6':(f%32 !=0)=true:=by simpa using u6
  clear u6;go_enter func209,ntmps209
  go_wp2_with fail
  go_ret2
  exact HE.o _ _ rfl rfl
 case inr.inr.inr.inr.inr.inr=>
  have u6':(f%32 !=0)=false:=by simpa using u6
  have u7':(s%32 !=0)=true:=by simpa using u7
  clear u6 u7;go_enter func209,ntmps209
  go_wp2_with fail
  go_ret2
  exact HE.o _ _ rfl rfl
 all_goals
  go_enter func209,ntmps209
  go_wp2_with fail
  go_ret2
  exact HE.o _ _ rfl rfl
def aBd:CSt->Array Value
 | none=>#[qI 0,qI 0,qI 0,.bool false,.bool false,.bool false]
 | some (b,l,q)=>#[qI b,qI l,qI (255-(q:Int)),.bool false,.bool false,.bool false]
theorem aFc (s:CSt):∃ x y z,aBd s=#[qI x,qI y,qI z,.bool false,.bool false,.bool false]:=by
 match s with
 | none=>exact ⟨_,_,_,rfl⟩
 | some (b,l,q)=>exact ⟨_,_,_,rfl⟩
theorem aLr (a en:Int)(ha:0<=a)(hae:a<en)(hen:en<=262144)(n:Nat)(hn:n<=10):lY (bH a en n)<=262144:=by
 match h:bH a en n with
 | none=>simp [lY]
 | some (b,l,q)=>
   obtain ⟨k1,k2,k3,k4⟩:=jG a en ha hae hen n hn b l q h;obtain ⟨c1,c2⟩:=zR a en l k1 k2 ha hae hen;rw [<- k4] at c1;simp only [lY];omega
set_option maxRecDepth 100000 in
theorem aBy (f s:Int)(w:qw)(hf:0<=f)(hf32:f%32=0)(hs:0<=s)(hs32:s%32=0)(hfs:s<=262144-f):
 qC 209 #[qI f,qI s] w (mJ w true (pF f s)):=by
 obtain ⟨i0,hi,hz0,hz1,hz2⟩:=info_parts aF7;obtain ⟨L,hL⟩:=eqx (pF f s);rw [<- hL];unfold pF at hL;have HL:=zh hL;clear hL;have HO:=zh (sA w w.heap.size aN);have HB:=zh ((Below.refl w.heap.size w).alloc aN (.cells #[] 214));have k1:(f%32 !=0)=false:=by simpa using hf32
 have k2:(s%32 !=0)=false:=by simpa using hs32
 have k3:f+s<=262144:=by omega
 have k4:f<=262144:=by omega
 have k5:s<=262144:=by omega
 go_enter func209,ntmps209
 go_wp2_with fail
 go_loopw [0,1,6] (fun x y r wr=>∃ (A:qO) (m cap:Nat) (rs:List Rg) (n:Nat) (a z:Int),x=qI a/\y=qI z/\r=qS A m cap/\f<=a/\a+z=f+s/\0<=z/\a%32=0/\z<=32*(n:Int)/\m+n<=8192/\ORg wr w.heap.size (qS A m cap) rs/\L=rs++fM (f+s) n a/\qY w wr) (fun _ y _ _=>(intOf y).toNat)
 .exact ⟨_,0,0,[],(s/32).toNat,f,s,rfl,rfl,rfl,by omega,by omega,by omega,hf32,by omega,by omega,HO.o,by rw [HL.o];rfl,HB.o⟩
 .obtain ⟨A,m,cap,rs,n,a,z,rfl,rfl,rfl,ha,haz,hz,ha32,hn,hmn,hO,hLL,hB⟩:=hrel;obtain ⟨w9,hw9⟩:=eqx (wr);subst hw9;by_cases hlt:0<z
  .rw [<- haz] at hLL;have hlen:=(eZ hO).1;obtain ⟨b,l,q,hF,hl,hl2,hq,hc1,hc2,hc3,hb,_⟩:=aK3 a (a+z) (by omega) (by omega) (by omega) ha32 (by omega);obtain ⟨n,rfl⟩:∃ n',n=n'+1:=⟨n-1,by omega⟩;rw [pD (a+z) n a b l q (by omega) hF] at hLL
   have hbw:0<=b/\b<=262144:=by
    have:=lI a l _ hl hl2 rfl;have:=pow_pos l.toNat;rw [hb];unfold aZ;omega
   clear hb;have HF:=zh hF;have HLL:=zh hLL;have HO1:=zh hO;have HB1:=zh hB;have HLEN0:=zh hlen;have HAZ:=zh haz;have hsz:=hB.size;have KZ:=zh (Blk.new w9 #[qI 0,qI 0,qI 0,.bool false,.bool false,.bool false] 214);clear hLL hO hB hF hlen HO HB;go_wp2_with fail
   go_loopw [8,9] (fun mo lg wq=>∃ (k:Nat),k<=10/\mo=qI (lY (bH a (a+z) k))/\lg=qI (5+(k:Int))/\Blk wq w9.heap.size (aBd (bH a (a+z) k)) 214/\qY w9 wq) (fun _ lg _=>15-(intOf lg).toNat)
   .exact ⟨0,by omega,by rw [dN];rfl,rfl,by rw [dN];exact KZ.o,bal⟩
   .obtain ⟨k,hk,rfl,rfl,kb,hBq⟩:=hrel;have hc0:=gO (bH a (a+z) k);have hc9:=aLr a (a+z) (by omega) (by omega) (by omega) k hk;by_cases hk10:k<10
    .have HBE:=zh (aEi a z (5+(k:Int)) wr (by omega) (by omega) (by omega) hlt (by omega));have HSU:=zh (dM a (a+z) k);obtain ⟨x1,x2,x3,hx⟩:=aFc (bH a (a+z) k);rw [hx] at kb;have hqc:=zR a (a+z) (5+(k:Int)) (by omega) (by omega) (by omega) (by omega) (by omega);have hqn:=uE (5+(k:Int)) (qOf a (a+z) (5+(k:Int)));generalize hst:bH a (a+z) k=st at *;generalize hcq:cnt (5+(k:Int)) (qOf a (a+z) (5+(k:Int)))=c at *;generalize hbb:aZ a (5+(k:Int))=bb at *;obtain ⟨sc,hsc⟩:=eqx (lY st);rw [<- hsc] at hc0 hc9 ⊢;have HSC:=zh hsc;have HCQ:=zh hcq;have HX:=zh hx;have hcle:c<=262144:=by omega
     have KB:=zh kb;have HBQ:=zh hBq;have hszq:=hBq.size;have hltq:=kb.lt;clear hsc hcq hx hqc hst hbb kb hBq;go_wp2_with fail
     refine HBE.o.mono ?_;rintro e w3 ⟨o,rfl,ho,hb3⟩;have HO3:=zh ho;have kb3:=(KB.o.bw hb3).alloc (.cells #[qI bb,qI (5+(k:Int)),qI o,.bool false,.bool false,.bool false] 214);have hsz3:=hb3.size;have HB3:=zh ((HBQ.o.trans (hb3.mono hszq)).alloc (by omega) (.cells #[qI bb,qI (5+(k:Int)),qI o,.bool false,.bool false,.bool false] 214));have KB3:=zh kb3;obtain ⟨q1,q2,q3,q4,q5,q6,q7⟩:=kb3.six';clear ho hb3 kb3;by_cases hgt:sc<c
     .have HE:=zh (show bH a (a+z) (k+1)=some (bb,5+(k:Int),qOf a (a+z) (5+(k:Int))) from by
       rw [HSU.o];unfold keep
       rw [if_pos (by rw [<- HSC.o,HCQ.o];exact hgt)])
      go_wp2_with fail
      refine ⟨⟨k+1,by omega,by rw [HE.o];exact congrArg (Value.int .i64) HCQ.o.symm,by go_num,?_,kS aN HB3.o bb (5+(k:Int)) o⟩,by simp [intOf];omega⟩;rw [HE.o]
      have e2:aBd (some (bb,5+(k:Int),qOf a (a+z) (5+(k:Int))))=#[qI bb,qI (5+(k:Int)),qI o,.bool false,.bool false,.bool false]:=by
       simp only [aBd];rw [HO3.o (by omega)]
      rw [e2];exact Blk.set (Blk.set (Blk.set (Blk.set (Blk.set (Blk.set KB3.o 0 _) 1 _) 2 _) 3 _) 4 _) 5 _
     .have HE:=zh (show bH a (a+z) (k+1)=st from by
       rw [HSU.o];unfold keep
       rw [if_neg (by rw [<- HSC.o,HCQ.o];exact hgt)])
      go_wp2_with fail
      exact ⟨⟨k+1,by omega,by rw [HE.o,HSC.o],by go_num,by rw [HE.o,HX.o];exact KB3.o,HB3.o⟩,by simp [intOf];omega⟩
    .have hk':k=10:=by omega
     subst hk';rw [HF.o] at kb hc0 hc9 ⊢;obtain ⟨o,ho⟩:=eqx (255-(q:Int));obtain ⟨c,hc⟩:=eqx (cnt l q);have kb':Blk wr w9.heap.size #[qI b,qI l,qI o,.bool false,.bool false,.bool false] 214:=by rw [ho];exact kb
     have hsc:lY (some (b,l,q))=c:=hc.symm;rw [hsc] at hc0 hc9 ⊢;rw [<- hc] at hc1 hc2 hc3 HLL;rw [<- ho] at HLL;have hwf:wfi b/\wfi l/\wfi o:=by unfold wfi;omega
     have HWF:=zh hwf;have hO2:=yP (S:=fun _=>False) (aJ hBq) HO1.o (fun _ _=>id);have HOWN:=zh (hO2.1.alloc (.cells #[qI b,qI l,qI o,.bool false,.bool false,.bool false] 214));rw [HLEN0.o] at HOWN;have HLEN:Zh ((dA (b,l,o,false,false,false)).length=1*6):=rfl;have HNEWS:=zh (aJs wr (b,l,o,false,false,false));have HONE:=zh (aL8 (b,l,o,false,false,false));have HRS:=zh hO2.2;have HLT:=zh hO2.1.lt;have hszq:=hBq.size;have HB3:=zh ((HB1.o.trans (hBq.mono hsz)).alloc (by omega) (.cells #[qI b,qI l,qI o,.bool false,.bool false,.bool false] 214));obtain ⟨q1,q2,q3,q4,q5,q6,q7⟩:=kb'.six';clear hO2 hBq kb kb' ho hc hsc hwf;go_wp2_with (at_builtin;refine wpList_append_own _ rfl _ _ 108 rfl w.heap.size 214 i0 (.agg #[qI 0,qI 0,qI 0,.bool false,.bool false,.bool false]) 6 32 underlying108 hi hz0 hz1 hz2 rfl (by decide) (qS A m cap) m (dO rs) rfl HOWN.o (qR wr.heap.size 0) 1 1 (dA (b,l,o,false,false,false)) rfl HLEN.o HNEWS.o HONE.o (by unfold maxLen;omega) (by omega) (by simp;omega) ?_;intro v' w3 hown3 hgr3 _;obtain ⟨A',cap',he⟩:=mT hown3;subst he;have hO3:=aAb (W:=wr) (v:=qS A m cap) (g:=(b,l,o,false,false,false)) HRS.o HWF.o (by rw [HLEN0.o];exact hown3);have t3:=jD hgr3;have hfar:∀ j,(qS A m cap).ownBlock=some j->w.heap.size<=j:=fun j hj=>(HLT.o j hj).1;have HB4:=zh (aG HB3.o t3 hfar (by simp;omega));have HO3:=zh hO3;clear hO3 t3 hfar hown3 hgr3)
     refine ⟨⟨A',m+1,cap',rs++[(b,l,o,false,false,false)],n,a+c,z-c,by go_num,by go_num,rfl,by omega,by omega,by omega,by omega,by omega,by omega,HO3.o,by rw [HLL.o,HAZ.o];simp,HB4.o⟩,?_⟩;simp [intOf];omega
  .have hzz:z=0:=by omega
   subst hzz;have hLe:L=rs:=by rw [hLL,tY _ _ _ (by omega),List.append_nil]
   subst hLe;have HO1:=zh hO;have HB1:=zh hB;clear hLL hO hB;go_wp2_with fail
   go_ret2
   exact ⟨A,m,cap,rfl,HO1.o,HB1.o⟩
theorem aDt (f s:Int)(w:qw)(h1:-9223372036854775808<=f/\f<=9223372036854775807)(h2:-9223372036854775808<=s/\s<=9223372036854775807):
 qC 209 #[qI f,qI s] w (mJ w (pW f s) (cvL f s)):=by
 unfold cvL;cases e:pW f s
 .exact aDs f s w h1 h2 e
 .unfold pW grn at e;simp at e;exact aBy f s w (by omega) (by omega) (by omega) (by omega) (by omega)
def rgt (r x y:Bool)(g:Rg):Rg:=(g.1,g.2.1,g.2.2.1,r,x,y)
def rts (r x y:Bool)(L:List Rg):List Rg:=L.map (rgt r x y)
theorem fQ (r x y:Bool)(L:List Rg):(rts r x y L).length=L.length:=by simp [rts]
theorem aI2 (r x y:Bool)(L:List Rg)(k:Nat)(h:k<L.length):(rts r x y L).take (k+1)=(rts r x y L).take k++[rgt r x y (L.getD k z6)]:=by
 rw [List.take_add_one];congr 1;simp [rts,xB,h]
theorem tX:∀ (n:Nat) (en a:Int),(fM en n a).length<=n
 | 0,en,a=>by simp [fM]
 | n+1,en,a=>by
   unfold fM;split
   .unfold aE0;split
    .have:=tX n en;simp only [List.length_cons];exact Nat.succ_le_succ (this _)
    .simp
   .simp
theorem rA (f s:Int):(cvL f s).length<=8192:=by
 unfold cvL;split
 .rename_i h;unfold pF;unfold pW grn at h;simp at h;have:=tX (s/32).toNat (f+s) f;omega
 .simp
