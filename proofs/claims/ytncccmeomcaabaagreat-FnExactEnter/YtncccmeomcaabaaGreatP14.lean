import Derived.Test.YtncccmeomcaabaaGreatP06
set_option maxHeartbeats 4000000
namespace Go.Proofs.YtncccmeomcaabaaGreat
open Go.RowKit
open Go.Proofs.Tryz
set_option linter.all false
set_option maxRecDepth 100000
variable {B:Nat}{S:Nat->Prop}{fd:Bool}
def rok (b l o:Int):Bool:=
 decide (5<=l/\l<=14/\0<=o/\o<=255/\(8<=l\/o=0)/\0<=b/\b<=262144-(2:Int)^l.toNat/\b%(2:Int)^l.toNat=0)
theorem lP (b l o:Int)(r x y:Bool)(w:qw)(hb:(Lit.int .i64 b).wf=true):
 qC 245 #[.agg #[qI b,qI l,qI o,.bool r,.bool x,.bool y]] w (qB w (.bool (rok b l o))):=by
 by_cases h1:l<5
 .have hf:Zh (rok b l o=false):=by show _=_;unfold rok;simp;omega
  go_enter func245,ntmps245
  go_wp2;go_ret;exact ⟨aA hf.o.symm,bal⟩
 .by_cases h2:14<l
  .have hf:Zh (rok b l o=false):=by show _=_;unfold rok;simp;omega
   go_enter func245,ntmps245
   go_wp2;go_ret;exact ⟨aA hf.o.symm,bal⟩
  .by_cases h3:o<0
   .have hf:Zh (rok b l o=false):=by show _=_;unfold rok;simp;omega
    go_enter func245,ntmps245
    go_wp2;go_ret;exact ⟨aA hf.o.symm,bal⟩
   .by_cases h4:255<o
    .have hf:Zh (rok b l o=false):=by show _=_;unfold rok;simp;omega
     go_enter func245,ntmps245
     go_wp2;go_ret;exact ⟨aA hf.o.symm,bal⟩
    .by_cases h5:l<8/\o≠0
     .obtain ⟨h5a,h5b⟩:=h5;have hf:Zh (rok b l o=false):=by show _=_;unfold rok;simp;omega
      have h5c:(o !=0)=true:=by simpa using h5b
      clear h5b;go_enter func245,ntmps245
      go_wp2;go_ret;exact ⟨aA hf.o.symm,bal⟩
     .have hp:=sD l.toNat;have hp0:=pow_pos l.toNat
      have hf:Zh (rok b l o=decide (0<=b/\b<=262144-(2:Int)^l.toNat/\b%(2:Int)^l.toNat=0)):=by
       show _=_;unfold rok;congr 1;apply propext;constructor
       .rintro ⟨_,_,_,_,_,h⟩;exact h
       .intro h;exact ⟨by omega,by omega,by omega,by omega,by omega,h⟩
      by_cases h8:l<8
      .have h0:o=0:=by omega
       subst h0;clear h5 h3 h4;go_enter func245,ntmps245
       go_wp2_with (go_at_call 244;refine (fC _ (by omega) (by omega) _).mono ?_;rintro e w' ⟨rfl,rfl⟩)
       all_goals
        go_ret;refine ⟨aA ?_,bal⟩;rw [hf.o,xJ];simp;try omega
      .clear h5;go_enter func245,ntmps245
       go_wp2_with (go_at_call 244;refine (fC _ (by omega) (by omega) _).mono ?_;rintro e w' ⟨rfl,rfl⟩)
       all_goals
        go_ret;refine ⟨aA ?_,bal⟩;rw [hf.o,xJ];simp;try omega
theorem lU (b l o:Int)(r x y:Bool)(w:qw)(hb:(Lit.int .i64 b).wf=true):
 qC 256 #[.agg #[qI b,qI l,qI o,.bool r,.bool x,.bool y]] w (qB w (.bool (rok b l o))):=by
 by_cases h1:l<5
 .have hf:Zh (rok b l o=false):=by show _=_;unfold rok;simp;omega
  go_enter func256,ntmps256
  go_wp2;go_ret;exact ⟨aA hf.o.symm,bal⟩
 .by_cases h2:14<l
  .have hf:Zh (rok b l o=false):=by show _=_;unfold rok;simp;omega
   go_enter func256,ntmps256
   go_wp2;go_ret;exact ⟨aA hf.o.symm,bal⟩
  .by_cases h3:o<0
   .have hf:Zh (rok b l o=false):=by show _=_;unfold rok;simp;omega
    go_enter func256,ntmps256
    go_wp2;go_ret;exact ⟨aA hf.o.symm,bal⟩
   .by_cases h4:255<o
    .have hf:Zh (rok b l o=false):=by show _=_;unfold rok;simp;omega
     go_enter func256,ntmps256
     go_wp2;go_ret;exact ⟨aA hf.o.symm,bal⟩
    .by_cases h5:l<8/\o≠0
     .obtain ⟨h5a,h5b⟩:=h5;have hf:Zh (rok b l o=false):=by show _=_;unfold rok;simp;omega
      have h5c:(o !=0)=true:=by simpa using h5b
      clear h5b;go_enter func256,ntmps256
      go_wp2;go_ret;exact ⟨aA hf.o.symm,bal⟩
     .have hp:=sD l.toNat;have hp0:=pow_pos l.toNat
      have hf:Zh (rok b l o=decide (0<=b/\b<=262144-(2:Int)^l.toNat/\b%(2:Int)^l.toNat=0)):=by
       show _=_;unfold rok;congr 1;apply propext;constructor
       .rintro ⟨_,_,_,_,_,h⟩;exact h
       .intro h;exact ⟨by omega,by omega,by omega,by omega,by omega,h⟩
      by_cases h8:l<8
      .have h0:o=0:=by omega
       subst h0;clear h5 h3 h4;go_enter func256,ntmps256
       go_wp2
       all_goals
        go_ret;refine ⟨aA ?_,bal⟩;rw [hf.o,xJ];simp [*];try omega
      .clear h5;by_cases ho:o=0
       .subst ho;clear h3 h4;go_enter func256,ntmps256
        go_wp2
        all_goals
         go_ret;refine ⟨aA ?_,bal⟩;rw [hf.o,xJ];simp [*];try omega
       .have ho':(o !=0)=true:=by simpa using ho
        clear ho;go_enter func256,ntmps256
        go_wp2
        all_goals
         go_ret;refine ⟨aA ?_,bal⟩;rw [hf.o,xJ];simp [*];try omega
def sF (x:Nat):Nat:=x%2+x/2%2+x/4%2+x/8%2+x/16%2+x/32%2+x/64%2+x/128%2
set_option maxRecDepth 100000 in
theorem sQ (x:Nat)(w:qw)(h1:x<256):
 qC 264 #[.int .u8 x] w fun e w'=>e=.returned (qI (sF x))/\w=w':=by
 go_enter func264,ntmps264
 go_wp2;go_ret;refine ⟨aH ?_,rfl⟩;clear w
 revert x
 decide +kernel
theorem aIr:∀ o:Fin 256,(255 ^^^ (255-o.val))=o.val:=by decide +kernel
theorem aLf (q:Nat)(h:q<256):bits BinOp.xor IntKind.u8 IntKind.u8.max (255-(q:Int))=(q:Int):=by
 have hm:IntKind.u8.max=255:=by decide
 rw [hm,u8_xor 255 (255-(q:Int)) (by omega) (by omega) (by omega) (by omega)];have:=aIr ⟨q,h⟩;simp only at this;have e:(255:Int).toNat=255:=rfl;have e2:(255-(q:Int)).toNat=255-q:=by omega
 rw [e,e2,this]
theorem aMi:∀ q,q<256->sF q<=8:=by decide +kernel
theorem aDj (b l:Int)(q:Nat)(r x y:Bool)(w:qw)(h:q<256):
 qC 265 #[.agg #[qI b,qI l,qI (255-(q:Int)),.bool r,.bool x,.bool y]] w (qB w (.int .u8 q)):=by
 have hx:=zh (aLf q h);have h0:0<=255-(q:Int):=by omega
 have h1:255-(q:Int)<=255:=by omega
 generalize 255-(q:Int)=o at *;go_enter func265,ntmps265
 go_wp2;go_ret;exact ⟨aH hx.o,bal⟩
theorem Blk.six' {w:qw}{g:Nat}{a b c d e f:Value}{t:TypeId}(h:Blk w g #[a,b,c,d,e,f] t):
 w.cell? (qR g 0)=some a/\w.cell? (qR g 1)=some b/\w.cell? (qR g 2)=some c/\w.cell? (qR g 3)=some d/\w.cell? (qR g 4)=some e/\w.cell? (qR g 5)=some f/\∀ i,w.frozen? (qR g i)=false:=
 ⟨by rw [h.cell];rfl,by rw [h.cell];rfl,by rw [h.cell];rfl,by rw [h.cell];rfl,by rw [h.cell];rfl,by rw [h.cell];rfl,fun i=>h.frozen i⟩
theorem nN {n:Int}(h0:-9223372036854775808<=n:=by omega)(h1:n<=9223372036854775807:=by omega):IntKind.i64.wrap n=n:=by
 simp only [IntKind.wrap,IntKind.bits,IntKind.signed];simp;omega
def cnt (l:Int)(q:Nat):Int:=(sF q:Int)*(2:Int)^(l-3).toNat
theorem eN (b l:Int)(q:Nat)(r x y:Bool)(w:qw)(h:q<256)(hl:5<=l)(hl':l<=14):
 qC 253 #[.agg #[qI b,qI l,qI (255-(q:Int)),.bool r,.bool x,.bool y]] w (qB w (qI (cnt l q))):=by
 have hp:=aMi q h;have hpw:=sD (l-3).toNat;have hpw0:=pow_pos (l-3).toNat
 have hmul:(sF q:Int)*(2:Int)^(l-3).toNat<=8*1048576:=by
  have h1:(sF q:Int)*(2:Int)^(l-3).toNat<=8*(2:Int)^(l-3).toNat:=Int.mul_le_mul_of_nonneg_right (by omega) (by omega);omega
 have hmul0:0<=(sF q:Int)*(2:Int)^(l-3).toNat:=Int.mul_nonneg (by omega) (by omega);have hw2:IntKind.i64.wrap (l-3)=l-3:=nN;have HC:Zh (cnt l q=(sF q:Int)*(2:Int)^(l-3).toNat):=rfl;have kb:=Blk.new w #[qI b,qI l,qI (255-(q:Int)),.bool r,.bool x,.bool y] 214;have hB0:qY w (w.alloc (.cells #[qI b,qI l,qI (255-(q:Int)),.bool r,.bool x,.bool y] 214)):=bal;have HM:=zh (xA hmul0 hmul);clear hmul hmul0;have HP:=zh (sQ q);go_enter func253,ntmps253
 go_wp2
 go_region_held3 (fun w'=>w'.cell? (qR w.heap.size 0)=some (qI b)/\w'.cell? (qR w.heap.size 1)=some (qI l)/\w'.cell? (qR w.heap.size 2)=some (qI (255-(q:Int)))/\w'.cell? (qR w.heap.size 3)=some (.bool r)/\w'.cell? (qR w.heap.size 4)=some (.bool x)/\w'.cell? (qR w.heap.size 5)=some (.bool y)) (go_keep)
  (first
    | (go_at_call 265;refine (aDj b l q r x y _ h).mono ?_;rintro e w1 ⟨rfl,hb1⟩;obtain ⟨q1,q2,q3,q4,q5,q6,q7⟩:=(Blk.bw (by exact kb) hb1).six')
    | (go_at_call 264;refine (HP.o _ h).mono ?_;rintro e w2 ⟨rfl,rfl⟩))
 go_wp2;go_ret;refine ⟨aH ?_,hB0.drew.trans (hb1.mono (by simp))⟩;rw [HC.o];exact nN (by have:=HM.o;omega) (by have:=HM.o;omega)
theorem aQy:∀ (q i:Nat),q<256->i<8->(q ||| 2^i)<256:=by
 intro q i hq hi;exact Nat.or_lt_two_pow (n:=8) hq (Nat.pow_lt_pow_right (by omega) hi)
theorem aIw (q i:Nat)(w:qw)(h:q<256)(hi:i<8):
 qC 267 #[.int .u8 q,qI i] w fun e w'=>e=.returned (.int .u8 ((q ||| 2^i:Nat):Int))/\w=w':=by
 go_enter func267,ntmps267
 go_wp2;go_ret;refine ⟨aH ?_,rfl⟩;have hp:(2:Nat)^i<256:=Nat.pow_lt_pow_right (by omega) hi
 have e:(2:Int)^i%256=((2^i:Nat):Int):=by
  have:((2^i:Nat):Int)=(2:Int)^i:=by simp
  have:=pow_pos i;omega
 rw [e];exact u8_or_nat q (2^i) h hp
def cm (l:Int)(q:Nat)(l':Int)(q':Nat):Bool:=decide (cnt l' q'<cnt l q\/(cnt l q=cnt l' q'/\l<l'))
theorem uK (b l b' l':Int)(q q':Nat)(w:qw)(h:q<256)(h':q'<256)(hl:5<=l)(hl2:l<=14)(hl':5<=l')(hl2':l'<=14):
 qC 262 #[.agg #[qI b,qI l,qI (255-(q:Int)),.bool false,.bool false,.bool false],.agg #[qI b',qI l',qI (255-(q':Int)),.bool false,.bool false,.bool false]] w (qB w (.bool (cm l q l' q'))):=by
 have ka:=(Blk.new w #[qI b,qI l,qI (255-(q:Int)),.bool false,.bool false,.bool false] 214).alloc (.cells #[qI b',qI l',qI (255-(q':Int)),.bool false,.bool false,.bool false] 214);have kb:=Blk.new (w.alloc (.cells #[qI b,qI l,qI (255-(q:Int)),.bool false,.bool false,.bool false] 214)) #[qI b',qI l',qI (255-(q':Int)),.bool false,.bool false,.bool false] 214;try unfold qY at *
 simp only [xF] at kb;have hB0:qY w ((w.alloc (.cells #[qI b,qI l,qI (255-(q:Int)),.bool false,.bool false,.bool false] 214)).alloc (.cells #[qI b',qI l',qI (255-(q':Int)),.bool false,.bool false,.bool false] 214)):=bal.alloc (by simp) _;have A1:=zh (eN b l q false false false);have A2:=zh (eN b' l' q' false false false);obtain ⟨o,ho⟩:=eqx (255-(q:Int));obtain ⟨o',ho'⟩:=eqx (255-(q':Int));have HM:Zh (cm l q l' q'=decide (cnt l' q'<cnt l q\/(cnt l q=cnt l' q'/\l<l'))):=rfl;rw [<- ho] at A1 ka kb hB0 ⊢;rw [<- ho'] at A2 ka kb hB0 ⊢;clear ho ho';generalize cnt l q=c1 at *;generalize cnt l' q'=c2 at *;go_enter func262,ntmps262
 go_wp2
 go_region_held3 (fun w'=>w'.cell? (qR w.heap.size 0)=some (qI b)/\w'.cell? (qR w.heap.size 1)=some (qI l)/\w'.cell? (qR w.heap.size 2)=some (qI o)/\w'.cell? (qR w.heap.size 3)=some (.bool false)/\w'.cell? (qR w.heap.size 4)=some (.bool false)/\w'.cell? (qR w.heap.size 5)=some (.bool false)/\w'.cell? (qR (w.heap.size+1) 0)=some (qI b')/\w'.cell? (qR (w.heap.size+1) 1)=some (qI l')/\w'.cell? (qR (w.heap.size+1) 2)=some (qI o')/\w'.cell? (qR (w.heap.size+1) 3)=some (.bool false)/\w'.cell? (qR (w.heap.size+1) 4)=some (.bool false)/\w'.cell? (qR (w.heap.size+1) 5)=some (.bool false)) (go_keep)
  (first
    | (go_at_call_of 253 (qI l);refine (A1.o _ h hl hl2).mono ?_;rintro e w1 ⟨rfl,hb1⟩;replace hb1:=dG hb1;obtain ⟨q1,q2,q3,q4,q5,q6,q7⟩:=(ka.bw hb1).six';obtain ⟨p1,p2,p3,p4,p5,p6,p7⟩:=(kb.bw hb1).six')
    | (go_at_call_of 253 (qI l');refine (A2.o _ h' hl' hl2').mono ?_;rintro e w2 ⟨rfl,hb2⟩;replace hb2:=hb1.trans (hb2.mono hb1.size);obtain ⟨q1,q2,q3,q4,q5,q6,q7⟩:=(ka.bw hb2).six';obtain ⟨p1,p2,p3,p4,p5,p6,p7⟩:=(kb.bw hb2).six'))
 have ka2:=ka.bw hb2;have kb2:=kb.bw hb2;have hB2:=hB0.trans (hb2.mono hB0.size);clear hb1 hb2 ka kb hB0;by_cases hc:c1=c2
 .subst hc;have hne:(c1 !=c1)=false:=by simp
  have HF:=zh (show decide (c1<c1\/(c1=c1/\l<l'))=decide (l<l') from by simp);obtain ⟨q1,q2,q3,q4,q5,q6,q7⟩:=ka2.six';obtain ⟨p1,p2,p3,p4,p5,p6,p7⟩:=kb2.six';go_wp2;go_ret;exact ⟨aA (by rw [HM.o,HF.o]),hB2⟩
 .have hne:(c1 !=c2)=true:=by simpa using hc
  have HF:=zh (show decide (c2<c1\/(c1=c2/\l<l'))=decide (c2<c1) from by simp [hc]);clear hc;obtain ⟨q1,q2,q3,q4,q5,q6,q7⟩:=ka2.six';obtain ⟨p1,p2,p3,p4,p5,p6,p7⟩:=kb2.six';go_wp2
  go_region_held3 (fun w'=>w'.cell? (qR w.heap.size 0)=some (qI b)/\w'.cell? (qR w.heap.size 1)=some (qI l)/\w'.cell? (qR w.heap.size 2)=some (qI o)/\w'.cell? (qR w.heap.size 3)=some (.bool false)/\w'.cell? (qR w.heap.size 4)=some (.bool false)/\w'.cell? (qR w.heap.size 5)=some (.bool false)/\w'.cell? (qR (w.heap.size+1) 0)=some (qI b')/\w'.cell? (qR (w.heap.size+1) 1)=some (qI l')/\w'.cell? (qR (w.heap.size+1) 2)=some (qI o')/\w'.cell? (qR (w.heap.size+1) 3)=some (.bool false)/\w'.cell? (qR (w.heap.size+1) 4)=some (.bool false)/\w'.cell? (qR (w.heap.size+1) 5)=some (.bool false)) (go_keep)
   (first
     | (go_at_call_of 253 (qI l);refine (A1.o _ h hl hl2).mono ?_;rintro e w3 ⟨rfl,hb1⟩;replace hb1:=dG hb1;obtain ⟨q1,q2,q3,q4,q5,q6,q7⟩:=(ka2.bw hb1).six';obtain ⟨p1,p2,p3,p4,p5,p6,p7⟩:=(kb2.bw hb1).six')
     | (go_at_call_of 253 (qI l');refine (A2.o _ h' hl' hl2').mono ?_;rintro e w4 ⟨rfl,hb2⟩;replace hb2:=hb1.trans (hb2.mono hb1.size);obtain ⟨q1,q2,q3,q4,q5,q6,q7⟩:=(ka2.bw hb2).six';obtain ⟨p1,p2,p3,p4,p5,p6,p7⟩:=(kb2.bw hb2).six'))
  have hB4:=hB2.trans (hb2.mono hB2.size);clear hb1 hb2 q1 q2 q3 q4 q5 q6 q7 p1 p2 p3 p4 p5 p6 p7;go_wp2;go_ret;exact ⟨aA (by rw [HM.o,HF.o]),hB4⟩
def Bst (w:qw)(B:Nat)(fd:Bool)(b l o:Int):Prop:=
 Blk w B #[.func (Fn.func 262) #[] #[],.bool fd,qI b,qI l,qI o,.bool false,.bool false,.bool false] 281
theorem Bst.cells {w:qw}{b l o:Int}(h:Bst w B fd b l o):
 w.cell? (qR B 0)=some (.func (Fn.func 262) #[] #[])/\w.cell? (qR B 1)=some (.bool fd)/\w.cell? (qR B 2)=some (qI b)/\w.cell? (qR B 3)=some (qI l)/\w.cell? (qR B 4)=some (qI o)/\w.cell? (qR B 5)=some (.bool false)/\w.cell? (qR B 6)=some (.bool false)/\w.cell? (qR B 7)=some (.bool false)/\∀ i,w.frozen? (qR B i)=false:=
 ⟨by rw [Blk.cell h];rfl,by rw [Blk.cell h];rfl,by rw [Blk.cell h];rfl,by rw [Blk.cell h];rfl,by rw [Blk.cell h];rfl,by rw [Blk.cell h];rfl,by rw [Blk.cell h];rfl,by rw [Blk.cell h];rfl,fun i=>Blk.frozen h i⟩
theorem aHd {a W:qw}(h:Turn S a W)(n:Nat):Turn S a (W.drewN n):=⟨h.os,h.tape,h.output,h.size,h.block⟩
def aF1 (W:qw)(B:Nat)(b l o:Int):World:=
 ((((((W.setCell (qR B 1) (.bool true)).setCell (qR B 2) (qI b)).setCell (qR B 3) (qI l)).setCell (qR B 4) (qI o)).setCell (qR B 5) (.bool false)).setCell (qR B 6) (.bool false)).setCell (qR B 7) (.bool false)
theorem wN {W:qw}{b' l' o':Int}(h:Bst W B fd b' l' o')(b l o:Int):Bst (aF1 W B b l o) B true b l o:=by
 have:=((((((Blk.set h 1 (.bool true)).set 2 (qI b)).set 3 (qI l)).set 4 (qI o)).set 5 (.bool false)).set 6 (.bool false)).set 7 (.bool false);unfold Bst aF1;simpa using this
theorem rP (W:qw)(B:Nat)(b l o:Int):Turn (fun j=>j=B) W (aF1 W B b l o):=by
 have T:∀ (X:qw) (i:Nat) (v:Value),Turn (fun j=>j=B) X (X.setCell (qR B i) v):=fun X i v=>⟨rfl,rfl,rfl,by rw [aL];exact aN,fun j hj hn=>heap_setCell_other _ _ _ _ hn⟩;unfold aF1;exact ((((((T _ _ _).trans (T _ _ _)).trans (T _ _ _)).trans (T _ _ _)).trans (T _ _ _)).trans (T _ _ _)).trans (T _ _ _)
theorem aH2 (B:Nat)(b l o b' l' o':Int)(w:qw)(h:Bst w B false b' l' o'):
 qC 268 #[.pointer (qP B),.agg #[qI b,qI l,qI o,.bool false,.bool false,.bool false]] w fun e w'=>e=.returned (.tuple #[])/\Bst w' B true b l o/\Turn (fun j=>j=B) w w':=by
 have hlt:=Blk.lt h;obtain ⟨q1,q2,q3,q4,q5,q6,q7,q8,q9⟩:=h.cells;have HF:Zh (Bst (w.alloc (.cells #[qI b,qI l,qI o,.bool false,.bool false,.bool false] 214)) B false b' l' o'):=Blk.alloc h _;have HT:=zh (iU (S:=fun j=>j=B) w (.cells #[qI b,qI l,qI o,.bool false,.bool false,.bool false] 214));clear h;go_enter func268,ntmps268
 go_wp2
 go_quiet (fail)
 go_wp2
 go_end0
 exact ⟨rfl,wN (W:=(w.alloc (.cells #[qI b,qI l,qI o,.bool false,.bool false,.bool false] 214)).drewN _) HF.o b l o,(aHd HT.o _).trans (rP _ B b l o)⟩
def aQf (w:qw)(B:Nat)(t:Bool)(b l o b' l' o':Int):Prop:=Bst w B true (if t then b else b') (if t then l else l') (if t then o else o')
theorem aH3 (B:Nat)(b l b' l':Int)(q q':Nat)(w:qw)(h:Bst w B true b' l' (255-(q':Int)))(hq:q<256)(hq':q'<256)(hl:5<=l)(hl2:l<=14)(hl':5<=l')(hl2':l'<=14):
 qC 268 #[.pointer (qP B),.agg #[qI b,qI l,qI (255-(q:Int)),.bool false,.bool false,.bool false]] w fun e w'=>e=.returned (.tuple #[])/\aQf w' B (cm l q l' q') b l (255-(q:Int)) b' l' (255-(q':Int))/\Turn (fun j=>j=B) w w':=by
 have hlt:=Blk.lt h;have C1:=zh (uK b l b' l' q q');have kb:=Blk.new w #[qI b,qI l,qI (255-(q:Int)),.bool false,.bool false,.bool false] 214;have hb:Bst (w.alloc (.cells #[qI b,qI l,qI (255-(q:Int)),.bool false,.bool false,.bool false] 214)) B true b' l' (255-(q':Int)):=Blk.alloc h _;have HT:=zh (iU (S:=fun j=>j=B) w (.cells #[qI b,qI l,qI (255-(q:Int)),.bool false,.bool false,.bool false] 214));obtain ⟨o,ho⟩:=eqx (255-(q:Int));obtain ⟨o',ho'⟩:=eqx (255-(q':Int));rw [<- ho] at C1 kb hb HT ⊢;rw [<- ho'] at C1 hb ⊢;clear ho ho' h;obtain ⟨q1,q2,q3,q4,q5,q6,q7,q8,q9⟩:=hb.cells;generalize cm l q l' q'=t at *;go_enter func268,ntmps268
 go_wp2
 go_region_held3 (fun w'=>w'.cell? (qR w.heap.size 0)=some (qI b)/\w'.cell? (qR w.heap.size 1)=some (qI l)/\w'.cell? (qR w.heap.size 2)=some (qI o)/\w'.cell? (qR w.heap.size 3)=some (.bool false)/\w'.cell? (qR w.heap.size 4)=some (.bool false)/\w'.cell? (qR w.heap.size 5)=some (.bool false)/\w'.cell? (qR B 0)=some (.func (Fn.func 262) #[] #[])/\w'.cell? (qR B 1)=some (.bool true)/\w'.cell? (qR B 2)=some (qI b')/\w'.cell? (qR B 3)=some (qI l')/\w'.cell? (qR B 4)=some (qI o')/\w'.cell? (qR B 5)=some (.bool false)/\w'.cell? (qR B 6)=some (.bool false)/\w'.cell? (qR B 7)=some (.bool false)) (go_keep)
  (first
    | (go_at_call 262;refine (C1.o _ hq hq' hl hl2 hl' hl2').mono ?_;rintro e w1 ⟨rfl,hb1⟩;replace hb1:=dG hb1;obtain ⟨p1,p2,p3,p4,p5,p6,p7⟩:=(kb.bw hb1).six';obtain ⟨q1,q2,q3,q4,q5,q6,q7,q8,q9⟩:=Bst.cells (show Bst w1 B true b' l' o' from Blk.bw hb hb1)))
 have hb':Bst w1 B true b' l' o':=Blk.bw hb hb1;have T1:=HT.o.trans (aJ (S:=fun j=>j=B) hb1);cases t
 .go_wp2
  go_end0
  exact ⟨rfl,hb',T1⟩
 .go_wp2
  go_end0
  exact ⟨rfl,wN hb' b l o,T1.trans (rP _ B b l o)⟩
def bK (i0 j:Nat):Nat:=2^(i0+j)-2^i0
theorem wR (i0:Nat):bK i0 0=0:=by simp [bK]
theorem aHn:∀ i0,i0<8->∀ j,j<8->i0+j<8->(bK i0 j ||| 2^(i0+j))=bK i0 (j+1):=by decide +kernel
theorem lD:∀ i0,i0<8->∀ j,j<9->i0+j<=8->bK i0 j<256:=by decide +kernel
theorem aJk:∀ i0,i0<8->∀ j,j<9->i0+j<=8->sF (bK i0 j)=j:=by decide +kernel
theorem aHo:∀ i0,i0<8->∀ j,j<9->i0+j<=8->(bK i0 j=255 ↔ j=8):=by decide +kernel
abbrev CSt:=Option (Int×Int×Nat)
def lZ:CSt->Int
 | none=>0
 | some (b,l,q)=>cnt l q
def aPp (s:CSt)(L:Int):Prop:=∀ b l q,s=some (b,l,q)->5<=l/\l<L/\q<256/\0<cnt l q
def gW (w:qw)(B:Nat):CSt->Prop
 | none=>Bst w B false 0 0 0
 | some (b,l,q)=>Bst w B true b l (255-(q:Int))
def keep (s:CSt)(b L:Int)(q:Nat):CSt:=if lZ s<cnt L q then some (b,L,q) else s
theorem nO (l:Int)(P:Int)(hP:(2:Int)^(l-3).toNat=P)(i0 j:Nat)(h0:i0<8)(h:i0+j<=8):cnt l (bK i0 j)=j*P:=by
 unfold cnt;rw [hP,aJk i0 h0 j (by omega) h]
theorem aEf (B:Nat)(b l:Int)(q:Nat)(w:qw)(h:gW w B none):
 qC 268 #[.pointer (qP B),.agg #[qI b,qI l,qI (255-(q:Int)),.bool false,.bool false,.bool false]] w fun e w'=>e=.returned (.tuple #[])/\gW w' B (some (b,l,q))/\Turn (fun j=>j=B) w w':=
 aH2 B b l (255-(q:Int)) 0 0 0 w h
theorem sT (B:Nat)(b l b' l':Int)(q q':Nat)(w:qw)(h:gW w B (some (b',l',q')))(hq:q<256)(hq':q'<256)(hl:5<=l)(hl2:l<=14)(hl':5<=l')(hl2':l'<=14):
 qC 268 #[.pointer (qP B),.agg #[qI b,qI l,qI (255-(q:Int)),.bool false,.bool false,.bool false]] w fun e w'=>e=.returned (.tuple #[])/\gW w' B (if cm l q l' q' then some (b,l,q) else some (b',l',q'))/\Turn (fun j=>j=B) w w':=
 (aH3 B b l b' l' q q' w h hq hq' hl hl2 hl' hl2').mono fun e w' he=>⟨he.1,by
   have:=he.2.1;cases hc:cm l q l' q'
   .rw [hc] at this;exact this
   .rw [hc] at this;exact this,he.2.2⟩
def stJ (s:CSt)(b l:Int)(i0 j:Nat):CSt:=if 8<=l\/j=8 then keep s b l (bK i0 j) else s
theorem aI5 (s:CSt)(b l P:Int)(hP:(2:Int)^(l-3).toNat=P)(i0:Nat)(h0:i0<8)(hs:0<=lZ s):stJ s b l i0 0=s:=by
 unfold stJ keep;rw [nO l P hP i0 0 h0 (by omega)];simp;omega
theorem aEe (B:Nat)(s:CSt)(b l P:Int)(hP:(2:Int)^(l-3).toNat=P)(hP0:0<P)(i0 j:Nat)(w:qw)(h0:i0<8)(hj:i0+j<8)(hl:5<=l)(hl2:l<=14)(hs:aPp s l)(hs0:0<=lZ s)(h8:8<=l\/j+1=8)(h:gW w B (stJ s b l i0 j)):
 qC 268 #[.pointer (qP B),.agg #[qI b,qI l,qI (255-(bK i0 (j+1):Int)),.bool false,.bool false,.bool false]] w fun e w'=>e=.returned (.tuple #[])/\gW w' B (stJ s b l i0 (j+1))/\Turn (fun j=>j=B) w w':=by
 have hq1:=lD i0 h0 (j+1) (by omega) (by omega);have hc1:=nO l P hP i0 (j+1) h0 (by omega);have hc0:=nO l P hP i0 j h0 (by omega);have hmul:((j+1:Nat):Int)*P=(j:Int)*P+P:=by rw [Int.natCast_add,Int.add_mul];simp
 have hjP:0<=(j:Int)*P:=Int.mul_nonneg (by omega) (by omega);have e1:stJ s b l i0 (j+1)=keep s b l (bK i0 (j+1)):=by unfold stJ;rw [if_pos h8]
 rw [e1];by_cases hk:8<=l/\lZ s<cnt l (bK i0 j)
 .have e0:stJ s b l i0 j=some (b,l,bK i0 j):=by unfold stJ keep;rw [if_pos (Or.inl hk.1),if_pos hk.2]
  rw [e0] at h;refine (sT B b l b l (bK i0 (j+1)) (bK i0 j) w h hq1 (lD i0 h0 j (by omega) (by omega)) hl hl2 hl hl2).mono fun e w' he=>?_;have hcm:cm l (bK i0 (j+1)) l (bK i0 j)=true:=by unfold cm;rw [hc1,hc0,hmul];simp;omega
  have ek:keep s b l (bK i0 (j+1))=some (b,l,bK i0 (j+1)):=by unfold keep;rw [if_pos (by rw [hc1,hmul];rw [hc0] at hk;omega)]
  rw [hcm] at he;rw [ek];exact he
 .have e0:stJ s b l i0 j=s:=by
   unfold stJ;by_cases h8':8<=l
   .rw [if_pos (Or.inl h8')];unfold keep;rw [if_neg (fun e=>hk ⟨h8',e⟩)]
   .rw [if_neg (by omega)]
  rw [e0] at h
  match s,h,hs,hs0,hk with
  | none,h,_,_,_=>
    have ek:keep none b l (bK i0 (j+1))=some (b,l,bK i0 (j+1)):=by unfold keep;rw [if_pos (by rw [hc1,hmul];simp [lZ];omega)]
    rw [ek];exact aEf B b l (bK i0 (j+1)) w h
  | some (b',l',q'),h,hs,hs0,hk=>
    obtain ⟨g1,g2,g3,g4⟩:=hs b' l' q' rfl;refine (sT B b l b' l' (bK i0 (j+1)) q' w h hq1 g3 hl hl2 g1 (by omega)).mono fun e w' he=>?_
    have hcm:cm l (bK i0 (j+1)) l' q'=decide (cnt l' q'<cnt l (bK i0 (j+1))):=by
     unfold cm;rw [xJ];simp;intro _ h;omega
    rw [hcm] at he;by_cases hlt:cnt l' q'<cnt l (bK i0 (j+1))
    .have ek:keep (some (b',l',q')) b l (bK i0 (j+1))=some (b,l,bK i0 (j+1)):=by
      show (if cnt l' q'<cnt l (bK i0 (j+1)) then some (b,l,bK i0 (j+1)) else some (b',l',q'))=_;rw [if_pos hlt]
     rw [ek];simp only [xR hlt,if_true] at he;exact he
    .have ek:keep (some (b',l',q')) b l (bK i0 (j+1))=some (b',l',q'):=by
      show (if cnt l' q'<cnt l (bK i0 (j+1)) then some (b,l,bK i0 (j+1)) else some (b',l',q'))=_;rw [if_neg hlt]
     rw [ek];simp only [xS hlt] at he;exact he
theorem tU {w w':qw}{s:CSt}(t:Turn S w w')(h:gW w B s)(hk:¬ S B):gW w' B s:=by
 match s,h with
 | none,h=>exact aF t h hk
 | some (b,l,q),h=>exact aF t h hk
theorem lK (a l N:Int)(hl:5<=l)(hl2:l<=14)(hN:(2:Int)^l.toNat=N)(h0:0<=a:=by omega)(h1:a<262144:=by omega):0<=a-a%N/\a-a%N<=262144-N/\(a-a%N)%N=0/\0<=a%N/\a%N<N:=by
 have:l=5\/l=6\/l=7\/l=8\/l=9\/l=10\/l=11\/l=12\/l=13\/l=14:=by omega
 rcases this with rfl|rfl|rfl|rfl|rfl|rfl|rfl|rfl|rfl|rfl<;>(subst hN;simp;omega)
theorem wU (l:Int)(hl:5<=l):(2:Int)^l.toNat=8*(2:Int)^(l-3).toNat:=by
 have:l.toNat=(l-3).toNat+3:=by omega
 rw [this,Int.pow_add];omega
theorem aCj (l:Int)(hl:5<=l)(hl2:l<=14):4<=(2:Int)^(l-3).toNat/\(2:Int)^(l-3).toNat<=2048:=by
 have:l=5\/l=6\/l=7\/l=8\/l=9\/l=10\/l=11\/l=12\/l=13\/l=14:=by omega
 rcases this with rfl|rfl|rfl|rfl|rfl|rfl|rfl|rfl|rfl|rfl<;>simp
theorem aMv (q:Nat)(h:q<256):bits BinOp.xor IntKind.u8 IntKind.u8.max (q:Int)=255-(q:Int):=by
 have:=aLf (255-q) (by omega);have e:(255-((255-q:Nat):Int))=(q:Int):=by omega
 rw [e] at this;rw [this];omega
def aG6 (s:CSt)(a en l P b:Int)(i0:Nat)(s':CSt):Prop:=
 (a%P≠0/\s'=s) \/
 (a%P=0/\∃ j:Nat,i0+j<=8/\(b+((i0+j:Nat):Int)*P<=en\/j=0)/\(i0+j=8\/en<b+(((i0+j:Nat):Int)+1)*P)/\s'=stJ s b l i0 j)
theorem aOd {a w w':qw}(h:Turn S a w)(hb:qY w w'):Turn S a w':=h.trans (aJ hb)
theorem vO (B:Nat)(s:CSt)(a en l P N b:Int)(i0:Nat)(w:qw)(hl:5<=l)(hl2:l<=14)(ha:0<=a)(hae:a<en)(hen:en<=262144)(hs:aPp s l)(hs0:0<=lZ s)(hP:(2:Int)^(l-3).toNat=P)(hN:(2:Int)^l.toNat=N)(hb:a-a%N=b)(hi:(a-b)/P=(i0:Int))(h:gW w B s):
 qC 263 #[.pointer (qP B),qI a,qI en,qI l] w fun e w'=>e=.returned (.tuple #[])/\(∃ s',gW w' B s'/\aG6 s a en l P b i0 s')/\Turn (fun j=>j=B) w w':=by
 obtain ⟨p4,p5⟩:=aCj l hl hl2;obtain ⟨b0,b1,b2,b3,b4⟩:=lK a l N hl hl2 hN ha;have hNP:=wU l hl;rw [hP,hN] at hNP;have hN1:N<=16384:=by rw [hP] at p5;omega
 have hN0:0<N:=by rw [hP] at p4;omega
 rw [hb] at b0 b1 b2;rw [hP] at p4 p5;have hP':=zh hP;have hN':=zh hN;have hab:a-b=a%N:=by omega
 have hi8:i0<8:=by
  have:(a-b)/P<8:=by
   apply Int.ediv_lt_of_lt_mul (by omega);omega
  omega
 by_cases hm:a%P=0
 .have hab2:a=b+(i0:Int)*P:=by
   have e1:(a%N)%P=0:=by
    rw [hNP,Int.emod_emod_of_dvd a (Int.dvd_mul_left 8 P)];exact hm
   have e2:=Int.mul_ediv_add_emod (a-b) P;rw [hi,hab,e1,Int.mul_comm] at e2;omega
  have HK:=zh (aI5 s b l P hP i0 hi8 hs0);have HS:=zh hs;have HNP:=zh hNP;have HAB:=zh hab2;have HAB1:=zh hab;have HH:=zh h;have HB2:=zh b2;have HM:=zh hm;clear hNP hs hab2 hab h b2;go_enter func263,ntmps263
  go_wp2;go_loopw [10,11] (fun r i wr=>∃ j:Nat,i0+j<=8/\r=.int .u8 (bK i0 j:Nat)/\i=qI ((i0+j:Nat):Int)/\(b+((i0+j:Nat):Int)*P<=en\/j=0)/\gW wr B (stJ s b l i0 j)/\Turn (fun j=>j=B) w wr) (fun _ i _=>8-(intOf i).toNat)
  .exact ⟨0,by omega,by rw [wR];rfl,by rw [hi];rfl,Or.inr rfl,by rw [HK.o];exact HH.o,Turn.refl _ _⟩
  .obtain ⟨j,hj,rfl,rfl,hq,hH,hT⟩:=hrel;obtain ⟨k,hk⟩:∃ k:Nat,k=i0+j:=⟨_,rfl⟩;have hkP:((k:Int)+1)*P=(k:Int)*P+P:=by rw [Int.add_mul];simp
   have hkP0:0<=(k:Int)*P:=Int.mul_nonneg (by omega) (by omega);have hkP1:(k:Int)*P<=8*P:=Int.mul_le_mul_of_nonneg_right (by omega) (by omega);have hm0:0<=((k:Int)+1)*P:=by omega
   have hm1:((k:Int)+1)*P<=18432:=by omega
   rw [<- hk] at hj hq ⊢;have HKP:=zh hkP;have HQ:=zh hq;have HHH:=zh hH;have HT:=zh hT;have HKK:=zh hk;have HI:=zh hi;have HBB:=zh hb;clear hkP hkP0 hkP1 hq hH hT hk hi hb hP hN b3 b4 hm;by_cases h8:k<8
   .by_cases hle:b+((k:Int)+1)*P<=en
    .have HLE:=zh hle;have hq0:=lD i0 hi8 j (by have:=HKK.o;omega) (by have:=HKK.o;omega);have hq1:=lD i0 hi8 (j+1) (by have:=HKK.o;omega) (by have:=HKK.o;omega);have HST:=zh (aHn i0 hi8 j (by have:=HKK.o;omega) (by have:=HKK.o;omega));rw [<- HKK.o] at HST;have HNR:=zh (aMv (bK i0 (j+1)) hq1)
     have HROK:=zh (show rok b l (255-(bK i0 (j+1):Int))=decide (8<=l\/j+1=8) from by
      have hf:=aHo i0 hi8 (j+1) (by have:=HKK.o;omega) (by have:=HKK.o;omega);unfold rok;rw [hN'.o];have:=HB2.o;rw [xJ];simp only [decide_eq_true_eq];constructor
      .rintro ⟨_,_,_,_,h|h,_⟩
       .exact Or.inl h
       .exact Or.inr (hf.1 (by omega))
      .intro h;refine ⟨hl,hl2,by omega,by omega,?_,by omega,by omega,HB2.o⟩;rcases h with h|h
       .exact Or.inl h
       .exact Or.inr (by have:=hf.2 h;omega))
     go_wp2_with fail
     refine (aIw (bK i0 j) k _ hq0 h8).mono ?_;rintro e w1 ⟨rfl,rfl⟩;rw [HST.o];obtain ⟨q,hq⟩:=eqx (bK i0 (j+1));rw [<- hq] at HNR HROK hq1 ⊢;have HQQ:=zh hq;clear hq;have hwf:(Lit.int .i64 b).wf=true:=by simp [Lit.wf,IntKind.min,IntKind.max,IntKind.bits,IntKind.signed];omega
     go_wp2_with fail
     rw [HNR.o];rw [show wrap64 (255-(q:Int))=255-(q:Int) from by unfold wrap64;omega];refine (lU b l (255-(q:Int)) false false false _ hwf).mono ?_;rintro e w2 ⟨rfl,hb2⟩;obtain ⟨q1,q2,q3,q4,q5,q6,q7⟩:=(Blk.bw (Blk.new wr #[qI b,qI l,qI (255-(q:Int)),.bool false,.bool false,.bool false] 214) hb2).six';have HT2:=zh (aOd (aOd HT.o (brf.alloc aN (.cells #[qI b,qI l,qI (255-(q:Int)),.bool false,.bool false,.bool false] 214))) hb2);have HH2:=zh (tU (S:=fun _=>False) (aJ hb2) (tU (S:=fun _=>False) (iU wr (.cells #[qI b,qI l,qI (255-(q:Int)),.bool false,.bool false,.bool false] 214)) HHH.o id) id);rw [HROK.o];clear hb2;by_cases hc:8<=l\/j+1=8
     .simp only [hc,decide_true];have HOF:=zh (aEe B s b l P hP'.o (by omega) i0 j w2 hi8 (by have:=HKK.o;omega) hl hl2 HS.o hs0 hc HH2.o);rw [<- HQQ.o] at HOF;go_wp2_with fail
      refine HOF.o.mono ?_;rintro e w3 ⟨rfl,hH3,hT3⟩;have HH3:=zh hH3;have HT3:=zh (HT2.o.trans hT3);clear hH3 hT3;go_wp2_with fail
      go_roundw
      .exact ⟨j+1,by have:=HKK.o;omega,by rw [HQQ.o],by rw [HKK.o];go_num,Or.inl (by have:=HLE.o;have e:=HKK.o;rw [show ((i0+(j+1):Nat):Int)=(k:Int)+1 by omega];exact this),HH3.o,HT3.o⟩
      .simp [intOf];omega
     .simp only [hc,decide_false]
      have HH3:=zh (show gW w2 B (stJ s b l i0 (j+1)) from by
       have e1:stJ s b l i0 (j+1)=s:=by unfold stJ;rw [if_neg hc]
       have e2:stJ s b l i0 j=s:=by unfold stJ;rw [if_neg (by have:=HKK.o;omega)]
       rw [e1,<- e2]
       exact HH2.o)
      go_wp2_with fail
      go_roundw
      .exact ⟨j+1,by have:=HKK.o;omega,by rw [HQQ.o],by rw [HKK.o];go_num,Or.inl (by have:=HLE.o;have e:=HKK.o;rw [show ((i0+(j+1):Nat):Int)=(k:Int)+1 by omega];exact this),HH3.o,HT2.o⟩
      .simp [intOf];omega
    .have HLE:=zh hle;go_wp2
     go_end0
     exact ⟨rfl,⟨_,HHH.o,Or.inr ⟨HM.o,j,by have:=HKK.o;omega,by rw [<- HKK.o];exact HQ.o,by rw [<- HKK.o];exact Or.inr (by have:=HLE.o;omega),rfl⟩⟩,HT.o⟩
   .go_wp2
    go_end0
    exact ⟨rfl,⟨_,HHH.o,Or.inr ⟨HM.o,j,by have:=HKK.o;omega,by rw [<- HKK.o];exact HQ.o,Or.inl (by have:=HKK.o;omega),rfl⟩⟩,HT.o⟩
 .have hm':(a%P !=0)=true:=by simpa using hm
  have HN:=zh hm;clear hm;go_enter func263,ntmps263
  go_wp2
  (try simp only [Exit.inBlock,Exit.then]);refine bodyPost_ret (results_none rfl _ _ _) rfl ?_
  exact ⟨rfl,⟨s,h,Or.inl ⟨HN.o,rfl⟩⟩,Turn.refl _ _⟩
def bC (a l:Int):Int:=a-a%(2:Int)^l.toNat
def cJ (a l:Int):Nat:=((a%(2:Int)^l.toNat)/(2:Int)^(l-3).toNat).toNat
def jOf (a en l:Int):Nat:=min (8-cJ a l) ((en-a)/(2:Int)^(l-3).toNat).toNat
def qOf (a en l:Int):Nat:=
 if l<8 then (if a%(2:Int)^l.toNat=0/\a+(2:Int)^l.toNat<=en then 255 else 0)
 else if a%(2:Int)^(l-3).toNat=0 then bK (cJ a l) (jOf a en l) else 0
theorem uO (l:Int):cnt l 0=0:=by simp [cnt,sF]
theorem yN (s:CSt)(b l:Int)(h:0<=lZ s):keep s b l 0=s:=by
 unfold keep;rw [uO,if_neg (by omega)]
theorem pD (a l P N:Int)(hl:5<=l)(hl2:l<=14)(hP:(2:Int)^(l-3).toNat=P)(hN:(2:Int)^l.toNat=N)(ha:0<=a)(ha2:a<262144):
 N=8*P/\4<=P/\P<=2048/\(a%N)%P=a%P/\cJ a l<8/\(a%P=0->a%N=(cJ a l:Int)*P)/\(a-bC a l)/P=(cJ a l:Int):=by
 obtain ⟨p4,p5⟩:=aCj l hl hl2;have hNP:=wU l hl;rw [hP,hN] at hNP;rw [hP] at p4 p5;obtain ⟨b0,b1,b2,b3,b4⟩:=lK a l N hl hl2 hN ha ha2;have hd:(a%N)%P=a%P:=by rw [hNP,Int.emod_emod_of_dvd a (Int.dvd_mul_left 8 P)]
 have h0:0<=(a%N)/P:=Int.ediv_nonneg b3 (by omega);have h8:(a%N)/P<8:=Int.ediv_lt_of_lt_mul (by omega) (by omega);have hi:((cJ a l:Nat):Int)=(a%N)/P:=by unfold cJ;rw [hP,hN];omega
 refine ⟨hNP,p4,p5,hd,by omega,fun hm=>?_,?_⟩
 .have e2:=Int.mul_ediv_add_emod (a%N) P;rw [hd,hm,<- hi,Int.mul_comm] at e2;omega
 .unfold bC;rw [hN,hi];congr 1;omega
theorem aQq (a en l P N:Int)(hl:5<=l)(hl2:l<=14)(hP:(2:Int)^(l-3).toNat=P)(hN:(2:Int)^l.toNat=N)(ha:0<=a)(hae:a<en)(hen:en<=262144)(hm:a%P=0)(j:Nat)(h1:cJ a l+j<=8)
 (h2:bC a l+((cJ a l+j:Nat):Int)*P<=en\/j=0) (h3:cJ a l+j=8\/en<bC a l+(((cJ a l+j:Nat):Int)+1)*P):j=jOf a en l/\a+(j:Int)*P<=en:=by
 obtain ⟨g1,g2,g3,g4,g5,g6,g7⟩:=pD a l P N hl hl2 hP hN ha (by omega);have hb:bC a l=a-a%N:=by unfold bC;rw [hN]
 have e1:((cJ a l+j:Nat):Int)*P=(cJ a l:Int)*P+(j:Int)*P:=by rw [Int.natCast_add,Int.add_mul]
 have e2:(((cJ a l+j:Nat):Int)+1)*P=(cJ a l:Int)*P+(j:Int)*P+P:=by rw [Int.add_mul,e1];omega
 rw [hb,g6 hm,e1] at h2;rw [hb,g6 hm,e2] at h3
 have hjP:a+(j:Int)*P<=en:=by
  rcases h2 with h|h
  .omega
  .subst h;simp;omega
 have hd:(j:Int)<=(en-a)/P:=Int.le_ediv_of_mul_le (by omega) (by omega);refine ⟨?_,hjP⟩;unfold jOf;rw [hP];rcases h3 with h|h
 .omega
 .have:(en-a)/P<(j:Int)+1:=Int.ediv_lt_of_lt_mul (by omega) (by rw [Int.add_mul];omega);omega
theorem aDq (s s':CSt)(a en l P N:Int)(hl:5<=l)(hl2:l<=14)(hP:(2:Int)^(l-3).toNat=P)(hN:(2:Int)^l.toNat=N)(ha:0<=a)(hae:a<en)(hen:en<=262144)(hs:0<=lZ s)
 (h:aG6 s a en l P (bC a l) (cJ a l) s'):s'=keep s (bC a l) l (qOf a en l):=by
 obtain ⟨g1,g2,g3,g4,g5,g6,g7⟩:=pD a l P N hl hl2 hP hN ha (by omega);rcases h with ⟨hm,rfl⟩|⟨hm,j,h1,h2,h3,rfl⟩
 .have hq:qOf a en l=0:=by
   unfold qOf;rw [hP,hN];by_cases h8:l<8
   .rw [if_pos h8,if_neg];rintro ⟨h,_⟩;rw [h] at g4;simp at g4;exact hm g4.symm
   .rw [if_neg h8,if_neg hm]
  rw [hq,yN _ _ _ hs]
 .obtain ⟨hj,hjP⟩:=aQq a en l P N hl hl2 hP hN ha hae hen hm j h1 h2 h3;have g6':=g6 hm;unfold stJ qOf;rw [hP,hN];by_cases h8:l<8
  .rw [if_pos h8];by_cases h88:j=8
   .have:cJ a l=0:=by omega
    rw [this] at g6';simp at g6';subst h88;rw [if_pos (Or.inr rfl),if_pos ⟨g6',by omega⟩,this];rfl
   .rw [if_neg (by omega),if_neg,yN _ _ _ hs];rintro ⟨k1,k2⟩;rw [k1] at g6'
    have hi0:cJ a l=0:=by
     have:(cJ a l:Int)=0:=by
      rcases Int.mul_eq_zero.1 g6'.symm with h|h
      .exact h
      .omega
     omega
    have hd:(8:Int)<=(en-a)/P:=Int.le_ediv_of_mul_le (by omega) (by omega);unfold jOf at hj;rw [hP] at hj;omega
  .rw [if_pos (Or.inl (by omega)),if_neg h8,if_pos hm,<- hj]
def bH (a en:Int)(n:Nat):CSt:=
 if h:n=0 then none else keep (bH a en (n-1)) (bC a (5+((n-1:Nat):Int))) (5+((n-1:Nat):Int)) (qOf a en (5+((n-1:Nat):Int)))
theorem dO (a en:Int):bH a en 0=none:=by rw [bH,dif_pos rfl]
theorem dN (a en:Int)(n:Nat):bH a en (n+1)=keep (bH a en n) (bC a (5+n)) (5+n) (qOf a en (5+n)):=by
 rw [bH,dif_neg (by omega)];rfl
theorem uP (l:Int)(q:Nat):0<=cnt l q:=by
 unfold cnt;exact Int.mul_nonneg (by omega) (Int.le_of_lt (pow_pos _))
theorem gO (s:CSt):0<=lZ s:=by
 match s with
 | none=>exact Int.le_refl _
 | some (b,l,q)=>exact uP l q
theorem aOz (a en l:Int)(hl:5<=l)(hl2:l<=14)(ha:0<=a)(ha2:a<262144):qOf a en l<256:=by
 obtain ⟨g1,g2,g3,g4,g5,g6,g7⟩:=pD a l _ _ hl hl2 rfl rfl ha ha2;unfold qOf;split
 .split<;>omega
 .split
  .apply lD _ g5<;>(unfold jOf;omega)
  .omega
theorem oT (a en:Int)(ha:0<=a)(ha2:a<262144):∀ n:Nat,n<=10->aPp (bH a en n) (5+n)
 | 0,_=>fun b l q h=>by rw [dO] at h;cases h
 | n+1,hn=>by
   have ih:=oT a en ha ha2 n (by omega);intro b l q h;rw [dN] at h;unfold keep at h;split at h
   .rename_i hlt;simp at h;obtain ⟨rfl,rfl,rfl⟩:=h;refine ⟨by omega,by omega,aOz a en _ (by omega) (by omega) ha ha2,?_⟩;have:=gO (bH a en n);omega
   .obtain ⟨k1,k2,k3,k4⟩:=ih b l q h;exact ⟨k1,by omega,k3,k4⟩
theorem aDt (a en:Int)(w:qw)(ha:0<=a)(hae:a<en)(hen:en<=262144)(b l:Int)(q:Nat)(hF:bH a en 10=some (b,l,q)):
 qC 252 #[qI a,qI en] w (qB w (.agg #[qI b,qI l,qI (255-(q:Int)),.bool false,.bool false,.bool false])):=by
 have HF:=zh hF;clear hF;have HA:=zh (xA ha (xA hae hen));go_enter func252,ntmps252
 go_wp2;go_loopw [6] (fun x wr=>∃ n:Nat,n<=10/\x=qI (5+(n:Int))/\gW wr (w.heap.size+1) (bH a en n)/\Blk wr w.heap.size #[qI 0,qI 0,qI 0,.bool false,.bool false,.bool false] 214/\qY w wr) (qf 15)
 .refine ⟨0,by omega,rfl,?_,?_,?_⟩
  .rw [dO];have:=Blk.new (w.alloc (.cells #[qI 0,qI 0,qI 0,.bool false,.bool false,.bool false] 214)) #[.func (Fn.func 262) #[] #[],.bool false,qI 0,qI 0,qI 0,.bool false,.bool false,.bool false] 281;try unfold qY at *
   simp only [xF] at this;exact this
  .exact (Blk.new w _ _).alloc _
  .exact bal.alloc (by simp) _
 .obtain ⟨n,hn,rfl,hH,hZ,hB⟩:=hrel;have HH:=zh hH;have HB:=zh hB;have HZ:=zh hZ;clear hH hB hZ;by_cases hlt:n<10
  .have hsz:=HB.o.size;have HC:=zh (vO (w.heap.size+1) (bH a en n) a en (5+(n:Int)) _ _ _ (cJ a (5+(n:Int))) wr (by omega) (by omega) ha hae hen (oT a en ha (by omega) n (by omega)) (gO _) rfl rfl rfl (pD a (5+(n:Int)) _ _ (by omega) (by omega) rfl rfl ha (by omega)).2.2.2.2.2.2 HH.o);go_wp2_with fail
   refine HC.o.mono ?_;rintro e w1 ⟨rfl,⟨s',hs',hb'⟩,t1⟩;have hk:=aDq _ _ a en (5+(n:Int)) _ _ (by omega) (by omega) rfl rfl ha hae hen (gO _) hb';have H1:=zh (show gW w1 (w.heap.size+1) (bH a en (n+1)) from by rw [hk] at hs';rw [dN];exact hs');have Z1:=zh (aF t1 HZ.o (by omega));have B1:=zh (aG HB.o t1 (fun k e=>by omega) hsz);clear hk hs' hb' t1 HC;go_wp2_with fail
   go_roundw
   .exact ⟨n+1,by omega,by go_num,H1.o,Z1.o,B1.o⟩
   .simp [qf,intOf];omega
  .have hn10:n=10:=by omega
   subst hn10;rw [HF.o] at HH;have HC:=zh (Bst.cells HH.o);obtain ⟨q1,q2,q3,q4,q5,q6,q7,q8,q9⟩:=HC.o;obtain ⟨p1,p2,p3,p4,p5,p6,p7⟩:=HZ.o.six';have HK:=zh (Blk.set (Blk.set (Blk.set (Blk.set (Blk.set (Blk.set HZ.o 0 (qI b)) 1 (qI l)) 2 (qI (255-(q:Int)))) 3 (.bool false)) 4 (.bool false)) 5 (.bool false));go_wp2;refine bodyPost_ret (results_cell_row rfl _ _ w.heap.size 214 #[qI b,qI l,qI (255-(q:Int)),.bool false,.bool false,.bool false] (0,0) _ rfl (by exact HK.o) underlying214 rfl (by kernel_rfl)) rfl ⟨rfl,?_⟩;exact (((((HB.o.setCell aN _).setCell aN _).setCell aN _).setCell aN _).setCell aN _).setCell aN _
