import Derived.Maps.AppendAt
import Derived.Laws.AppendOwnNone
import Derived.Test.YtngdgogjlpjjpaeGreatP00
import Derived.Test.YtngdgogjlpjjpaeGreatP01
import Derived.Test.YtngdgogjlpjjpaeGreatP02
import Derived.Test.YtngdgogjlpjjpaeGreatP07
import Derived.Test.YtngdgogjlpjjpaeGreatP09
import Derived.Test.YtngdgogjlpjjpaeGreatP19
import Derived.Test.YtngdgogjlpjjpaeGreatP21
set_option maxHeartbeats 2000000
namespace Go.Proofs.YtngdgogjlpjjpaeGreat
open Go.RowKit Classical
set_option linter.unusedVariables false
theorem holds_turn {S:Nat→Prop}{w w':World}{B:Nat}{s:CSt}(t:Turn S w w')(h:Holds w B s)(hk:¬ S B):Holds w' B s:=by
 match s,h with
 | none,h=>exact turn_blk t h hk
 | some (b,l,q),h=>exact turn_blk t h hk
theorem base_ok (a l N:Int)(hl:5≤l)(hl2:l≤14)(hN:(2:Int)^l.toNat=N)(h0:0≤a)(h1:a<262144):0≤a - a % N∧a - a % N≤262144 - N∧(a - a % N) % N=0∧0≤a % N∧a % N<N:=by
 have:l=5∨l=6∨l=7∨l=8∨l=9∨l=10∨l=11∨l=12∨l=13∨l=14:=by omega
 rcases this with rfl | rfl | rfl | rfl | rfl | rfl | rfl | rfl | rfl | rfl <;> (subst hN;simp;omega)
theorem pow_split (l:Int)(hl:5≤l):(2:Int)^l.toNat=8 * (2:Int)^(l - 3).toNat:=by
 have:l.toNat=(l - 3).toNat+3:=by omega
 rw [this,Int.pow_add]
 omega
theorem pow_four (l:Int)(hl:5≤l)(hl2:l≤14):4≤(2:Int)^(l - 3).toNat∧(2:Int)^(l - 3).toNat≤2048:=by
 have:l=5∨l=6∨l=7∨l=8∨l=9∨l=10∨l=11∨l=12∨l=13∨l=14:=by omega
 rcases this with rfl | rfl | rfl | rfl | rfl | rfl | rfl | rfl | rfl | rfl <;> simp
theorem not_run (q:Nat)(h:q<256):bits BinOp.xor IntKind.u8 IntKind.u8.max (q:Int)=255 - (q:Int):=by
 have:=cv_xor (255 - q) (by omega)
 have e:(255 - ((255 - q:Nat):Int))=(q:Int):=by omega
 rw [e] at this
 rw [this]
 omega
def BehindP (s:CSt)(a en l P b:Int)(i0:Nat)(s':CSt):Prop:=
 (a % P≠0∧s'=s) ∨
 (a % P=0∧∃ j:Nat,i0+j≤8∧(b+((i0+j:Nat):Int) * P≤en∨j=0)∧(i0+j=8∨en<b+(((i0+j:Nat):Int)+1) * P)∧s'=stJ s b l i0 j)
theorem cv_in {S:Nat→Prop}{a w w':World}(h:Turn S a w)(hb:Below w.heap.size w w'):Turn S a w':=h.trans (turn_below hb)
theorem offerRuns_any (B:Nat)(s:CSt)(a en l P N b:Int)(i0:Nat)(w:World)(hl:5≤l)(hl2:l≤14)(ha:0≤a)(hae:a<en)(hen:en≤262144)(hs:StOk s l)(hs0:0≤sCnt s)(hP:(2:Int)^(l - 3).toNat=P)(hN:(2:Int)^l.toNat=N)(hb:a - a % N=b)(hi:(a - b) / P=(i0:Int))(h:Holds w B s):
 Calls Tryz.prog 287 #[.pointer (some ⟨B,0,none⟩),.int .i64 a,.int .i64 en,.int .i64 l] w fun e w'=>e=.returned (.tuple #[])∧(∃ s',Holds w' B s'∧BehindP s a en l P b i0 s')∧Turn (fun j=>j=B) w w':=by
 obtain ⟨p4,p5⟩:=pow_four l hl hl2
 obtain ⟨b0,b1,b2,b3,b4⟩:=base_ok a l N hl hl2 hN ha (by omega)
 have hNP:=pow_split l hl
 rw [hP,hN] at hNP
 have hN1:N≤16384:=by rw [hP] at p5;omega
 have hN0:0<N:=by rw [hP] at p4;omega
 rw [hb] at b0 b1 b2
 rw [hP] at p4 p5
 have hP':=hide hP
 have hN':=hide hN
 have hab:a - b=a % N:=by omega
 have hi8:i0<8:=by
  have:(a - b) / P<8:=by
   apply Int.ediv_lt_of_lt_mul (by omega)
   omega
  omega
 by_cases hm:a % P=0
 ·have hab2:a=b+(i0:Int) * P:=by
   have e1:(a % N) % P=0:=by
    rw [hNP,Int.emod_emod_of_dvd a (Int.dvd_mul_left 8 P)]
    exact hm
   have e2:=Int.mul_ediv_add_emod (a - b) P
   rw [hi,hab,e1,Int.mul_comm] at e2
   omega
  have HK:=hide (stJ_zero s b l P hP i0 hi8 hs0)
  have HS:=hide hs
  have HNP:=hide hNP
  have HAB:=hide hab2
  have HAB1:=hide hab
  have HH:=hide h
  have HB2:=hide b2
  have HM:=hide hm
  clear hNP hs hab2 hab h b2
  go_enter Tryz.func287,Tryz.ntmps287
  go_wp2
  go_loopw [10,11] (fun r i wr=>∃ j:Nat,i0+j≤8∧r=.int .u8 (runq i0 j:Nat)∧i=.int .i64 ((i0+j:Nat):Int)∧(b+((i0+j:Nat):Int) * P≤en∨j=0)∧Holds wr B (stJ s b l i0 j)∧Turn (fun j=>j=B) w wr) (fun _ i _=>8 - (intOf i).toNat)
  case atStart=>exact ⟨0,by omega,by rw [runq_zero];rfl,by rw [hi];rfl,Or.inr rfl,by rw [HK.out];exact HH.out,Turn.refl _ _⟩
  case round=>
   obtain ⟨j,hj,rfl,rfl,hq,hH,hT⟩:=hrel
   obtain ⟨k,hk⟩:∃ k:Nat,k=i0+j:=⟨_,rfl⟩
   have hkP:((k:Int)+1) * P=(k:Int) * P+P:=by rw [Int.add_mul];simp
   have hkP0:0≤(k:Int) * P:=Int.mul_nonneg (by omega) (by omega)
   have hkP1:(k:Int) * P≤8 * P:=Int.mul_le_mul_of_nonneg_right (by omega) (by omega)
   have hm0:0≤((k:Int)+1) * P:=by omega
   have hm1:((k:Int)+1) * P≤18432:=by omega
   rw [← hk] at hj hq ⊢
   have HKP:=hide hkP
   have HQ:=hide hq
   have HHH:=hide hH
   have HT:=hide hT
   have HKK:=hide hk
   have HI:=hide hi
   have HBB:=hide hb
   clear hkP hkP0 hkP1 hq hH hT hk hi hb hP hN b3 b4 hm
   by_cases h8:k<8
   ·by_cases hle:b+((k:Int)+1) * P≤en
    ·have HLE:=hide hle
     have hq0:=runq_lt i0 hi8 j (by have:=HKK.out;omega) (by have:=HKK.out;omega)
     have hq1:=runq_lt i0 hi8 (j+1) (by have:=HKK.out;omega) (by have:=HKK.out;omega)
     have HST:=hide (runq_step i0 hi8 j (by have:=HKK.out;omega) (by have:=HKK.out;omega))
     rw [← HKK.out] at HST
     have HNR:=hide (not_run (runq i0 (j+1)) hq1)
     have HROK:=hide (show rok b l (255 - (runq i0 (j+1):Int))=decide (8≤l∨j+1=8) from by
      have hf:=runq_full i0 hi8 (j+1) (by have:=HKK.out;omega) (by have:=HKK.out;omega)
      unfold rok
      rw [hN'.out]
      have:=HB2.out
      rw [Bool.eq_iff_iff]
      simp only [decide_eq_true_eq]
      constructor
      ·rintro ⟨_,_,_,_,h | h,_⟩
       ·exact Or.inl h
       ·exact Or.inr (hf.1 (by omega))
      ·intro h
       refine ⟨hl,hl2,by omega,by omega,?_,by omega,by omega,HB2.out⟩
       rcases h with h | h
       ·exact Or.inl h
       ·exact Or.inr (by have:=hf.2 h;omega))
     go_wp2_with fail
     refine (with_any (runq i0 j) k _ hq0 h8).mono ?_
     rintro e w1 ⟨rfl,rfl⟩
     rw [HST.out]
     obtain ⟨q,hq⟩:∃ q,q=runq i0 (j+1):=⟨_,rfl⟩
     rw [← hq] at HNR HROK hq1 ⊢
     have HQQ:=hide hq
     clear hq
     have hwf:(Lit.int .i64 b).wf=true:=by simp [Lit.wf,IntKind.min,IntKind.max,IntKind.bits,IntKind.signed];omega
     go_wp2_with fail
     rw [HNR.out]
     rw [show wrap64 (255 - (q:Int))=255 - (q:Int) from by unfold wrap64;omega]
     refine (iRegionOk_any b l (255 - (q:Int)) false false false _ hwf).mono ?_
     rintro e w2 ⟨rfl,hb2⟩
     obtain ⟨q1,q2,q3,q4,q5,q6,q7⟩:=(Blk.below (Blk.new wr #[.int .i64 b,.int .i64 l,.int .i64 (255 - (q:Int)),.bool false,.bool false,.bool false] 158) hb2).six'
     have HT2:=hide (cv_in (cv_in HT.out ((Below.refl _ _).alloc (Nat.le_refl _) (.cells #[.int .i64 b,.int .i64 l,.int .i64 (255 - (q:Int)),.bool false,.bool false,.bool false] 158))) hb2)
     have HH2:=hide (holds_turn (S:=fun _=>False) (turn_below hb2) (holds_turn (S:=fun _=>False) (turn_alloc wr (.cells #[.int .i64 b,.int .i64 l,.int .i64 (255 - (q:Int)),.bool false,.bool false,.bool false] 158)) HHH.out id) id)
     rw [HROK.out]
     clear hb2
     by_cases hc:8≤l∨j+1=8
     ·simp only [hc,decide_true]
      have HOF:=hide (offer_step B s b l P hP'.out (by omega) i0 j w2 hi8 (by have:=HKK.out;omega) hl hl2 HS.out hs0 hc HH2.out)
      rw [← HQQ.out] at HOF
      go_wp2_with fail
      refine HOF.out.mono ?_
      rintro e w3 ⟨rfl,hH3,hT3⟩
      have HH3:=hide hH3
      have HT3:=hide (HT2.out.trans hT3)
      clear hH3 hT3
      go_wp2_with fail
      go_roundw
      case rel=>exact ⟨j+1,by have:=HKK.out;omega,by rw [HQQ.out],by rw [HKK.out];go_num,Or.inl (by have:=HLE.out;have e:=HKK.out;rw [show ((i0+(j+1):Nat):Int)=(k:Int)+1 by omega];exact this),HH3.out,HT3.out⟩
      case measure=>simp [intOf];omega
     ·simp only [hc,decide_false]
      have HH3:=hide (show Holds w2 B (stJ s b l i0 (j+1)) from by
       have e1:stJ s b l i0 (j+1)=s:=by unfold stJ;rw [if_neg hc]
       have e2:stJ s b l i0 j=s:=by unfold stJ;rw [if_neg (by have:=HKK.out;omega)]
       rw [e1,← e2]
       exact HH2.out)
      go_wp2_with fail
      go_roundw
      case rel=>exact ⟨j+1,by have:=HKK.out;omega,by rw [HQQ.out],by rw [HKK.out];go_num,Or.inl (by have:=HLE.out;have e:=HKK.out;rw [show ((i0+(j+1):Nat):Int)=(k:Int)+1 by omega];exact this),HH3.out,HT2.out⟩
      case measure=>simp [intOf];omega
    ·have HLE:=hide hle
     go_wp2
     go_end0
     exact ⟨rfl,⟨_,HHH.out,Or.inr ⟨HM.out,j,by have:=HKK.out;omega,by rw [← HKK.out];exact HQ.out,by rw [← HKK.out];exact Or.inr (by have:=HLE.out;omega),rfl⟩⟩,HT.out⟩
   ·go_wp2
    go_end0
    exact ⟨rfl,⟨_,HHH.out,Or.inr ⟨HM.out,j,by have:=HKK.out;omega,by rw [← HKK.out];exact HQ.out,Or.inl (by have:=HKK.out;omega),rfl⟩⟩,HT.out⟩
 ·have hm':(a % P != 0)=true:=by simpa using hm
  have HN:=hide hm
  clear hm
  go_enter Tryz.func287,Tryz.ntmps287
  go_wp2
  (try simp only [Exit.inBlock,Exit.then]);refine bodyPost_ret (results_none rfl _ _ _) rfl ?_
  exact ⟨rfl,⟨s,h,Or.inl ⟨HN.out,rfl⟩⟩,Turn.refl _ _⟩
def baseOf (a l:Int):Int:=a - a % (2:Int)^l.toNat
def i0Of (a l:Int):Nat:=((a % (2:Int)^l.toNat) / (2:Int)^(l - 3).toNat).toNat
def jOf (a en l:Int):Nat:=min (8 - i0Of a l) ((en - a) / (2:Int)^(l - 3).toNat).toNat
def qOf (a en l:Int):Nat:=
 if l<8 then (if a % (2:Int)^l.toNat=0∧a+(2:Int)^l.toNat≤en then 255 else 0)
 else if a % (2:Int)^(l - 3).toNat=0 then runq (i0Of a l) (jOf a en l) else 0
theorem cnt_zero (l:Int):cnt l 0=0:=by simp [cnt,popc]
theorem keep_zero (s:CSt)(b l:Int)(h:0≤sCnt s):keep s b l 0=s:=by
 unfold keep
 rw [cnt_zero,if_neg (by omega)]
theorem parts (a l P N:Int)(hl:5≤l)(hl2:l≤14)(hP:(2:Int)^(l - 3).toNat=P)(hN:(2:Int)^l.toNat=N)(ha:0≤a)(ha2:a<262144):
 N=8 * P∧4≤P∧P≤2048∧(a % N) % P=a % P∧i0Of a l<8∧(a % P=0→a % N=(i0Of a l:Int) * P)∧(a - baseOf a l) / P=(i0Of a l:Int):=by
 obtain ⟨p4,p5⟩:=pow_four l hl hl2
 have hNP:=pow_split l hl
 rw [hP,hN] at hNP
 rw [hP] at p4 p5
 obtain ⟨b0,b1,b2,b3,b4⟩:=base_ok a l N hl hl2 hN ha ha2
 have hd:(a % N) % P=a % P:=by rw [hNP,Int.emod_emod_of_dvd a (Int.dvd_mul_left 8 P)]
 have h0:0≤(a % N) / P:=Int.ediv_nonneg b3 (by omega)
 have h8:(a % N) / P<8:=Int.ediv_lt_of_lt_mul (by omega) (by omega)
 have hi:((i0Of a l:Nat):Int)=(a % N) / P:=by unfold i0Of;rw [hP,hN];omega
 refine ⟨hNP,p4,p5,hd,by omega,fun hm=>?_,?_⟩
 ·have e2:=Int.mul_ediv_add_emod (a % N) P
  rw [hd,hm,← hi,Int.mul_comm] at e2
  omega
 ·unfold baseOf
  rw [hN,hi]
  congr 1
  omega
theorem j_is (a en l P N:Int)(hl:5≤l)(hl2:l≤14)(hP:(2:Int)^(l - 3).toNat=P)(hN:(2:Int)^l.toNat=N)(ha:0≤a)(hae:a<en)(hen:en≤262144)(hm:a % P=0)(j:Nat)(h1:i0Of a l+j≤8)
 (h2:baseOf a l+((i0Of a l+j:Nat):Int) * P≤en∨j=0) (h3:i0Of a l+j=8∨en<baseOf a l+(((i0Of a l+j:Nat):Int)+1) * P):j=jOf a en l∧a+(j:Int) * P≤en:=by
 obtain ⟨g1,g2,g3,g4,g5,g6,g7⟩:=parts a l P N hl hl2 hP hN ha (by omega)
 have hb:baseOf a l=a - a % N:=by unfold baseOf;rw [hN]
 have e1:((i0Of a l+j:Nat):Int) * P=(i0Of a l:Int) * P+(j:Int) * P:=by rw [Int.natCast_add,Int.add_mul]
 have e2:(((i0Of a l+j:Nat):Int)+1) * P=(i0Of a l:Int) * P+(j:Int) * P+P:=by rw [Int.add_mul,e1];omega
 rw [hb,g6 hm,e1] at h2
 rw [hb,g6 hm,e2] at h3
 have hjP:a+(j:Int) * P≤en:=by
  rcases h2 with h | h
  ·omega
  ·subst h;simp;omega
 have hd:(j:Int)≤(en - a) / P:=Int.le_ediv_of_mul_le (by omega) (by omega)
 refine ⟨?_,hjP⟩
 unfold jOf
 rw [hP]
 rcases h3 with h | h
 ·omega
 ·have:(en - a) / P<(j:Int)+1:=Int.ediv_lt_of_lt_mul (by omega) (by rw [Int.add_mul];omega)
  omega
theorem behind_keep (s s':CSt)(a en l P N:Int)(hl:5≤l)(hl2:l≤14)(hP:(2:Int)^(l - 3).toNat=P)(hN:(2:Int)^l.toNat=N)(ha:0≤a)(hae:a<en)(hen:en≤262144)(hs:0≤sCnt s)
 (h:BehindP s a en l P (baseOf a l) (i0Of a l) s'):s'=keep s (baseOf a l) l (qOf a en l):=by
 obtain ⟨g1,g2,g3,g4,g5,g6,g7⟩:=parts a l P N hl hl2 hP hN ha (by omega)
 rcases h with ⟨hm,rfl⟩ | ⟨hm,j,h1,h2,h3,rfl⟩
 ·have hq:qOf a en l=0:=by
   unfold qOf
   rw [hP,hN]
   by_cases h8:l<8
   ·rw [if_pos h8,if_neg]
    rintro ⟨h,_⟩
    rw [h] at g4
    simp at g4
    exact hm g4.symm
   ·rw [if_neg h8,if_neg hm]
  rw [hq,keep_zero _ _ _ hs]
 ·obtain ⟨hj,hjP⟩:=j_is a en l P N hl hl2 hP hN ha hae hen hm j h1 h2 h3
  have g6':=g6 hm
  unfold stJ qOf
  rw [hP,hN]
  by_cases h8:l<8
  ·rw [if_pos h8]
   by_cases h88:j=8
   ·have:i0Of a l=0:=by omega
    rw [this] at g6'
    simp at g6'
    subst h88
    rw [if_pos (Or.inr rfl),if_pos ⟨g6',by omega⟩,this]
    rfl
   ·rw [if_neg (by omega),if_neg,keep_zero _ _ _ hs]
    rintro ⟨k1,k2⟩
    rw [k1] at g6'
    have hi0:i0Of a l=0:=by
     have:(i0Of a l:Int)=0:=by
      rcases Int.mul_eq_zero.1 g6'.symm with h | h
      ·exact h
      ·omega
     omega
    have hd:(8:Int)≤(en - a) / P:=Int.le_ediv_of_mul_le (by omega) (by omega)
    unfold jOf at hj
    rw [hP] at hj
    omega
  ·rw [if_pos (Or.inl (by omega)),if_neg h8,if_pos hm,← hj]
def cvFold (a en:Int)(n:Nat):CSt:=
 if h:n=0 then none else keep (cvFold a en (n - 1)) (baseOf a (5+((n - 1:Nat):Int))) (5+((n - 1:Nat):Int)) (qOf a en (5+((n - 1:Nat):Int)))
theorem cvFold_none (a en:Int):cvFold a en 0=none:=by rw [cvFold,dif_pos rfl]
theorem cvFold_succ (a en:Int)(n:Nat):cvFold a en (n+1)=keep (cvFold a en n) (baseOf a (5+n)) (5+n) (qOf a en (5+n)):=by
 rw [cvFold,dif_neg (by omega)]
 rfl
theorem cnt_nonneg (l:Int)(q:Nat):0≤cnt l q:=by
 unfold cnt
 exact Int.mul_nonneg (by omega) (Int.le_of_lt (pow_pos _))
theorem sCnt_nonneg (s:CSt):0≤sCnt s:=by
 match s with
 | none=>exact Int.le_refl _
 | some (b,l,q)=>exact cnt_nonneg l q
theorem qOf_lt (a en l:Int)(hl:5≤l)(hl2:l≤14)(ha:0≤a)(ha2:a<262144):qOf a en l<256:=by
 obtain ⟨g1,g2,g3,g4,g5,g6,g7⟩:=parts a l _ _ hl hl2 rfl rfl ha ha2
 unfold qOf
 split
 ·split <;> omega
 ·split
  ·apply runq_lt _ g5 <;> (unfold jOf;omega)
  ·omega
theorem cvFold_ok (a en:Int)(ha:0≤a)(ha2:a<262144):∀ n:Nat,n≤10→StOk (cvFold a en n) (5+n)
 | 0,_=>fun b l q h=>by rw [cvFold_none] at h;cases h
 | n+1,hn=>by
   have ih:=cvFold_ok a en ha ha2 n (by omega)
   intro b l q h
   rw [cvFold_succ] at h
   unfold keep at h
   split at h
   ·rename_i hlt
    simp at h
    obtain ⟨rfl,rfl,rfl⟩:=h
    refine ⟨by omega,by omega,qOf_lt a en _ (by omega) (by omega) ha ha2,?_⟩
    have:=sCnt_nonneg (cvFold a en n)
    omega
   ·obtain ⟨k1,k2,k3,k4⟩:=ih b l q h
    exact ⟨k1,by omega,k3,k4⟩
theorem widest_any (a en:Int)(w:World)(ha:0≤a)(hae:a<en)(hen:en≤262144)(b l:Int)(q:Nat)(hF:cvFold a en 10=some (b,l,q)):
 Calls Tryz.prog 282 #[.int .i64 a,.int .i64 en] w fun e w'=>e=.returned (.agg #[.int .i64 b,.int .i64 l,.int .i64 (255 - (q:Int)),.bool false,.bool false,.bool false])∧Below w.heap.size w w':=by
 have HF:=hide hF
 clear hF
 have HA:=hide (And.intro ha (And.intro hae hen))
 go_enter Tryz.func282,Tryz.ntmps282
 go_wp2
 go_loopw [6] (fun x wr=>∃ n:Nat,n≤10∧x=.int .i64 (5+(n:Int))∧Holds wr (w.heap.size+1) (cvFold a en n)∧Blk wr w.heap.size #[.int .i64 0,.int .i64 0,.int .i64 0,.bool false,.bool false,.bool false] 158∧Below w.heap.size w wr) (fun x _=>15 - (intOf x).toNat)
 case atStart=>
  refine ⟨0,by omega,rfl,?_,?_,?_⟩
  ·rw [cvFold_none]
   have:=Blk.new (w.alloc (.cells #[.int .i64 0,.int .i64 0,.int .i64 0,.bool false,.bool false,.bool false] 158)) #[.func (Fn.func 286) #[] #[],.bool false,.int .i64 0,.int .i64 0,.int .i64 0,.bool false,.bool false,.bool false] 308
   simp only [World.size_alloc] at this
   exact this
  ·exact (Blk.new w _ _).alloc _
  ·exact ((Below.refl _ _).alloc (Nat.le_refl _) _).alloc (by simp) _
 case round=>
  obtain ⟨n,hn,rfl,hH,hZ,hB⟩:=hrel
  have HH:=hide hH
  have HB:=hide hB
  have HZ:=hide hZ
  clear hH hB hZ
  by_cases hlt:n<10
  ·have hsz:=HB.out.size
   have HC:=hide (offerRuns_any (w.heap.size+1) (cvFold a en n) a en (5+(n:Int)) _ _ _ (i0Of a (5+(n:Int))) wr (by omega) (by omega) ha hae hen (cvFold_ok a en ha (by omega) n (by omega)) (sCnt_nonneg _) rfl rfl rfl (parts a (5+(n:Int)) _ _ (by omega) (by omega) rfl rfl ha (by omega)).2.2.2.2.2.2 HH.out)
   go_wp2_with fail
   refine HC.out.mono ?_
   rintro e w1 ⟨rfl,⟨s',hs',hb'⟩,t1⟩
   have hk:=behind_keep _ _ a en (5+(n:Int)) _ _ (by omega) (by omega) rfl rfl ha hae hen (sCnt_nonneg _) hb'
   have H1:=hide (show Holds w1 (w.heap.size+1) (cvFold a en (n+1)) from by rw [hk] at hs';rw [cvFold_succ];exact hs')
   have Z1:=hide (turn_blk t1 HZ.out (by omega))
   have B1:=hide (below_turn HB.out t1 (fun k e=>by omega) hsz)
   clear hk hs' hb' t1 HC
   go_wp2_with fail
   go_roundw
   case rel=>exact ⟨n+1,by omega,by go_num,H1.out,Z1.out,B1.out⟩
   case measure=>simp [intOf];omega
  ·have hn10:n=10:=by omega
   subst hn10
   rw [HF.out] at HH
   have HC:=hide (Bst.cells HH.out)
   obtain ⟨q1,q2,q3,q4,q5,q6,q7,q8,q9⟩:=HC.out
   obtain ⟨p1,p2,p3,p4,p5,p6,p7⟩:=HZ.out.six'
   have HK:=hide (Blk.set (Blk.set (Blk.set (Blk.set (Blk.set (Blk.set HZ.out 0 (.int .i64 b)) 1 (.int .i64 l)) 2 (.int .i64 (255 - (q:Int)))) 3 (.bool false)) 4 (.bool false)) 5 (.bool false))
   go_wp2
   refine bodyPost_ret (results_cell_row rfl _ _ w.heap.size 158 #[.int .i64 b,.int .i64 l,.int .i64 (255 - (q:Int)),.bool false,.bool false,.bool false] (0,0) _ rfl (by exact HK.out) Tryz.underlying158 rfl (by kernel_rfl)) rfl ⟨rfl,?_⟩
   exact (((((HB.out.setCell (Nat.le_refl _) _).setCell (Nat.le_refl _) _).setCell (Nat.le_refl _) _).setCell (Nat.le_refl _) _).setCell (Nat.le_refl _) _).setCell (Nat.le_refl _) _
theorem pow_32 (l:Int)(hl:8≤l)(hl2:l≤14):(32:Int) ∣ (2:Int)^(l - 3).toNat:=by
 have:l=8∨l=9∨l=10∨l=11∨l=12∨l=13∨l=14:=by omega
 rcases this with rfl | rfl | rfl | rfl | rfl | rfl | rfl <;> decide
theorem pow_32' (l:Int)(hl:5≤l)(hl2:l≤14):(32:Int) ∣ (2:Int)^l.toNat:=by
 have:l=5∨l=6∨l=7∨l=8∨l=9∨l=10∨l=11∨l=12∨l=13∨l=14:=by omega
 rcases this with rfl | rfl | rfl | rfl | rfl | rfl | rfl | rfl | rfl | rfl <;> decide
theorem qOf_cnt (a en l:Int)(hl:5≤l)(hl2:l≤14)(ha:0≤a)(hae:a<en)(hen:en≤262144):a+cnt l (qOf a en l)≤en∧(32:Int) ∣ cnt l (qOf a en l):=by
 obtain ⟨P,hP⟩:∃ P,(2:Int)^(l - 3).toNat=P:=⟨_,rfl⟩
 obtain ⟨N,hN⟩:∃ N,(2:Int)^l.toNat=N:=⟨_,rfl⟩
 obtain ⟨g1,g2,g3,g4,g5,g6,g7⟩:=parts a l P N hl hl2 hP hN ha (by omega)
 have h0:a+cnt l 0≤en∧(32:Int) ∣ cnt l 0:=by rw [cnt_zero];exact ⟨by omega,Int.dvd_zero _⟩
 by_cases h8:l<8
 ·by_cases hc:a % N=0∧a+N≤en
  ·have e:qOf a en l=255:=by unfold qOf;rw [if_pos h8,hN,if_pos hc]
   have e2:cnt l 255=N:=by unfold cnt;rw [hP,show popc 255=8 from rfl,g1];rfl
   rw [e,e2]
   refine ⟨hc.2,?_⟩
   rw [← hN]
   exact pow_32' l hl hl2
  ·have e:qOf a en l=0:=by unfold qOf;rw [if_pos h8,hN,if_neg hc]
   rw [e]
   exact h0
 ·by_cases hm:a % P=0
  ·have e:qOf a en l=runq (i0Of a l) (jOf a en l):=by unfold qOf;rw [if_neg h8,hP,if_pos hm]
   have hj:((jOf a en l:Nat):Int)≤(en - a) / P∧i0Of a l+jOf a en l≤8:=by
    have:0≤(en - a) / P:=Int.ediv_nonneg (by omega) (by omega)
    unfold jOf
    rw [hP]
    omega
   rw [e,cnt_run l P hP _ _ g5 hj.2]
   have:=Int.mul_le_of_le_ediv (by omega) hj.1
   refine ⟨by omega,?_⟩
   rw [← hP]
   exact Int.dvd_mul_of_dvd_right (pow_32 l (by omega) hl2)
  ·have e:qOf a en l=0:=by unfold qOf;rw [if_neg h8,hP,if_neg hm]
   rw [e]
   exact h0
theorem cvFold_gives (a en:Int)(ha:0≤a)(hae:a<en)(hen:en≤262144):∀ n:Nat,n≤10→∀ b l q,cvFold a en n=some (b,l,q)→5≤l∧l≤14∧b=baseOf a l∧q=qOf a en l
 | 0,_=>fun b l q h=>by rw [cvFold_none] at h;cases h
 | n+1,hn=>by
   have ih:=cvFold_gives a en ha hae hen n (by omega)
   intro b l q h
   rw [cvFold_succ] at h
   unfold keep at h
   split at h
   ·simp at h
    obtain ⟨rfl,rfl,rfl⟩:=h
    exact ⟨by omega,by omega,rfl,rfl⟩
   ·exact ih b l q h
theorem cvFold_some (a en:Int)(ha:0≤a)(hae:a+32≤en)(ha32:a % 32=0):∀ n:Nat,∃ x,cvFold a en (n+1)=some x
 | 0=>by
   have e:qOf a en 5=255:=by
    unfold qOf
    rw [if_pos (by omega),if_pos]
    exact ⟨ha32,hae⟩
   refine ⟨(baseOf a 5,5,255),?_⟩
   rw [cvFold_succ,cvFold_none]
   show keep none (baseOf a 5) 5 (qOf a en 5)=_
   rw [e]
   rfl
 | n+1=>by
   obtain ⟨x,hx⟩:=cvFold_some a en ha hae ha32 n
   rw [cvFold_succ]
   unfold keep
   split
   ·exact ⟨_,rfl⟩
   ·exact ⟨x,hx⟩
theorem chosen (a en:Int)(ha:0≤a)(hae:a<en)(hen:en≤262144)(ha32:a % 32=0)(he32:en % 32=0):
 ∃ b l q,cvFold a en 10=some (b,l,q)∧5≤l∧l≤14∧q<256∧32≤cnt l q∧a+cnt l q≤en∧cnt l q % 32=0∧b=baseOf a l∧q=qOf a en l:=by
 obtain ⟨⟨b,l,q⟩,hx⟩:=cvFold_some a en ha (by omega) ha32 9
 obtain ⟨k1,k2,k3,k4⟩:=cvFold_gives a en ha hae hen 10 (Nat.le_refl _) b l q hx
 obtain ⟨m1,m2,m3,m4⟩:=cvFold_ok a en ha (by omega) 10 (Nat.le_refl _) b l q hx
 obtain ⟨c1,c2⟩:=qOf_cnt a en l k1 k2 ha hae hen
 rw [← k4] at c1 c2
 exact ⟨b,l,q,hx,k1,k2,m3,by omega,c1,by omega,k3,k4⟩
def cvTurn (s:CSt)(next:Int→List Rg)(a:Int):List Rg:=
 match s with
 | some (b,l,q)=>(b,l,255 - (q:Int),false,false,false) :: next (a+cnt l q)
 | none=>[]
def cvList (en:Int):Nat→Int→List Rg
 | 0,_=>[]
 | n+1,a=>if a<en then cvTurn (cvFold a en 10) (cvList en n) a else []
theorem cvList_end (en:Int)(n:Nat)(a:Int)(h:¬ a<en):cvList en n a=[]:=by
 cases n with
 | zero=>rfl
 | succ n=>exact if_neg h
theorem cvList_step (en:Int)(n:Nat)(a b l:Int)(q:Nat)(h:a<en)(hF:cvFold a en 10=some (b,l,q)):cvList en (n+1) a=(b,l,255 - (q:Int),false,false,false) :: cvList en n (a+cnt l q):=by
 have e:cvList en (n+1) a=cvTurn (cvFold a en 10) (cvList en n) a:=if_pos h
 rw [e,hF]
 rfl
def grn (x:Int):Bool:=decide (0≤x∧x % 32=0)
theorem isGrained_any (x:Int)(w:World):
 Calls Tryz.prog 164 #[.int .i64 x] w fun e w'=>e=.returned (.bool (grn x))∧w=w':=by
 by_cases h:0≤x
 ·have HG:=hide (show grn x=decide (x % 32=0) from by unfold grn;simp [h])
  go_enter Tryz.func164,Tryz.ntmps164
  go_wp2
  go_ret
  refine ⟨ret_bool ?_,rfl⟩
  rw [HG.out]
  rw [Bool.eq_iff_iff]
  simp
 ·have HG:=hide (show grn x=false from by unfold grn;simp;omega)
  go_enter Tryz.func164,Tryz.ntmps164
  go_wp2
  go_ret
  exact ⟨ret_bool HG.out.symm,rfl⟩
def CvPost (w:World)(ok:Bool)(L:List Rg)(e:Ending)(w':World):Prop:=
 ∃ (x:Option Addr) (m cap:Nat),e=.returned (.tuple #[.slice x m cap,.bool ok])∧ORg w' w.heap.size (.slice x m cap) L∧Below w.heap.size w w'
theorem org_nil (w:World)(base:Nat):ORg w base (.slice none 0 0) []:=⟨⟨rfl,.inl ⟨rfl,rfl⟩⟩,fun _ h=>by cases h⟩
def cvOk (f s:Int):Bool:=grn f && grn s && decide (s≤262144 - f)
def cvAll (f s:Int):List Rg:=cvList (f+s) (s / 32).toNat f
set_option maxRecDepth 100000 in
theorem iCover_good (f s:Int)(w:World)(hf:0≤f)(hf32:f % 32=0)(hs:0≤s)(hs32:s % 32=0)(hfs:s≤262144 - f):
 Calls Tryz.prog 274 #[.int .i64 f,.int .i64 s] w (CvPost w true (cvAll f s)):=by
 obtain ⟨i0,hi,hz0,hz1,hz2⟩:=info_parts infoR
 have G1:=hide (isGrained_any f)
 have G2:=hide (isGrained_any s)
 have e1:grn f=true:=by unfold grn;simp;omega
 have e2:grn s=true:=by unfold grn;simp;omega
 rw [e1] at G1
 rw [e2] at G2
 clear e1 e2
 obtain ⟨L,hL⟩:∃ L,L=cvAll f s:=⟨_,rfl⟩
 rw [← hL]
 unfold cvAll at hL
 have HL:=hide hL
 clear hL
 go_enter Tryz.func274,Tryz.ntmps274
 go_wp2_with fail
 refine (G1.out w).mono ?_
 rintro e w1 ⟨rfl,rfl⟩
 go_wp2_with fail
 refine (G2.out w).mono ?_
 rintro e w1 ⟨rfl,rfl⟩
 go_wp2_with fail
 go_loopw [6,8] (fun r x wr=>∃ (A:Option Addr) (m cap:Nat) (rs:List Rg) (n:Nat) (a:Int),r=.slice A m cap∧x=.int .i64 a∧f≤a∧a≤f+s∧a % 32=0∧f+s - a≤32 * (n:Int)∧m+n≤8192∧ORg wr w.heap.size (.slice A m cap) rs∧L=rs++cvList (f+s) n a∧Below w.heap.size w wr) (fun _ x _=>(f+s - intOf x).toNat)
 case atStart=>exact ⟨none,0,0,[],(s / 32).toNat,f,rfl,rfl,by omega,by omega,hf32,by omega,by omega,org_nil _ _,by rw [HL.out];rfl,Below.refl _ _⟩
 case round=>
  obtain ⟨A,m,cap,rs,n,a,rfl,rfl,ha,ha2,ha32,hn,hmn,hO,hLL,hB⟩:=hrel
  have hlen:=(or_rs hO).1
  by_cases hlt:a<f+s
  ·obtain ⟨b,l,q,hF,hl,hl2,hq,hc1,hc2,hc3,hb,_⟩:=chosen a (f+s) (by omega) hlt (by omega) ha32 (by omega)
   obtain ⟨n,rfl⟩:∃ n',n=n'+1:=⟨n - 1,by omega⟩
   rw [cvList_step (f+s) n a b l q hlt hF] at hLL
   have hbw:0≤b∧b≤262144:=by
    have:=base_ok a l _ hl hl2 rfl (by omega) (by omega)
    have:=pow_pos l.toNat
    rw [hb]
    unfold baseOf
    omega
   clear hb
   have HW:=hide (widest_any a (f+s) wr (by omega) hlt (by omega) b l q hF)
   have HLL:=hide hLL
   have HO:=hide hO
   have HB:=hide hB
   have HC:=hide (addressCount_any b l q false false false)
   have HLEN0:=hide hlen
   have hsz:=hB.size
   obtain ⟨c,hcc⟩:∃ c,c=cnt l q:=⟨_,rfl⟩
   rw [← hcc] at hc1 hc2 hc3 HC HLL
   have HCC:=hide hcc
   have HWF:=hide (show wfi b∧wfi l∧wfi (255 - (q:Int)) from by unfold wfi;omega)
   have HQ:=hide hq
   clear hLL hO hB hF hlen hcc
   go_wp2_with fail
   refine HW.out.mono ?_
   rintro e w2 ⟨rfl,hb2⟩
   have HB2:=hide (HB.out.trans (hb2.mono hsz))
   obtain ⟨o,ho⟩:∃ o,o=255 - (q:Int):=⟨_,rfl⟩
   rw [← ho] at HC HLL HWF ⊢
   have hO2:=turn_or (S:=fun _=>False) (turn_below hb2) HO.out (fun _ _=>id)
   have hO3:=hO2.1.alloc (.cells #[.int .i64 b,.int .i64 l,.int .i64 o,.bool false,.bool false,.bool false] 158)
   have HOWN:=hide (hO3.alloc (.cells #[.int .i64 b,.int .i64 l,.int .i64 o,.bool false,.bool false,.bool false] 158))
   rw [HLEN0.out] at HOWN
   have HLEN:=hide (show (cells6 (b,l,o,false,false,false)).length=1 * 6 from rfl)
   have HNEWS:=hide (news6 (w2.alloc (.cells #[.int .i64 b,.int .i64 l,.int .i64 o,.bool false,.bool false,.bool false] 158)) (b,l,o,false,false,false))
   have HONE:=hide (one6 (b,l,o,false,false,false))
   have HRS:=hide hO2.2
   have HLT:=hide hO2.1.lt
   have KB:=hide ((Blk.new w2 #[.int .i64 b,.int .i64 l,.int .i64 o,.bool false,.bool false,.bool false] 158).alloc (.cells #[.int .i64 b,.int .i64 l,.int .i64 o,.bool false,.bool false,.bool false] 158))
   have hsz2:=hb2.size
   have HB3:=hide ((HB2.out.alloc (by omega) (.cells #[.int .i64 b,.int .i64 l,.int .i64 o,.bool false,.bool false,.bool false] 158)).alloc (by simp;omega) (.cells #[.int .i64 b,.int .i64 l,.int .i64 o,.bool false,.bool false,.bool false] 158))
   simp only [World.size_alloc] at HNEWS
   clear hO2 hO3 hb2 ho
   go_wp2_with (at_builtin;refine wpList_append_own _ rfl _ _ 68 rfl w.heap.size 158 i0 (.agg #[.int .i64 0,.int .i64 0,.int .i64 0,.bool false,.bool false,.bool false]) 6 32 Tryz.underlying68 hi hz0 hz1 hz2 rfl (by decide) (.slice A m cap) m (flat rs) rfl HOWN.out ⟨w2.heap.size+1,0,none⟩ 1 1 (cells6 (b,l,o,false,false,false)) rfl HLEN.out HNEWS.out HONE.out (by unfold maxLen;omega) (by omega) (by simp;omega) ?_;intro v' w3 hown3 hgr3 _;obtain ⟨A',cap',he⟩:=or_shape hown3;subst he;have hO3:=or_more (W:=w2) (v:=.slice A m cap) (g:=(b,l,o,false,false,false)) HRS.out HWF.out (by rw [HLEN0.out];exact hown3);have t3:=grown_turn hgr3;have hfar:∀ j,(Value.slice A m cap).ownBlock=some j→w.heap.size≤j:=fun j hj=>(HLT.out j hj).1;have hnot:∀ j,(Value.slice A m cap).ownBlock=some j→j<w2.heap.size:=fun j hj=>(HLT.out j hj).2;have hK3:=turn_blk t3 KB.out (fun e=>by have:=hnot _ e;omega);have hsz3:=t3.size;simp only [World.size_alloc] at hsz3;have HB4:=hide (below_turn HB3.out t3 hfar (by simp;omega));have HO3:=hide hO3;have HK3:=hide hK3;obtain ⟨q1,q2,q3,q4,q5,q6,q7⟩:=hK3.six';clear hO3 t3 hfar hnot hown3 hgr3 hK3)
   refine (HC.out w3 HQ.out hl hl2).mono ?_
   rintro e w4 ⟨rfl,hb4⟩
   have HB5:=hide (HB4.out.trans (hb4.mono (by omega)))
   have HO5:=hide (turn_or (S:=fun _=>False) (turn_below hb4) HO3.out (fun _ _=>id))
   clear hb4
   go_wp2_with fail
   go_roundw
   case rel=>exact ⟨A',m+1,cap',rs++[(b,l,o,false,false,false)],n,a+c,rfl,by go_num,by omega,by omega,by omega,by omega,by omega,HO5.out,by rw [HLL.out];simp,HB5.out⟩
   case measure=>simp [intOf];omega
  ·have hLe:L=rs:=by rw [hLL,cvList_end _ _ _ hlt,List.append_nil]
   subst hLe
   have HO:=hide hO
   have HB:=hide hB
   clear hLL hO hB
   go_wp2
   go_ret2
   exact ⟨A,m,cap,rfl,HO.out,HB.out⟩
theorem iCover_bad (f s:Int)(w:World)(hs0:-9223372036854775808≤f∧f≤9223372036854775807)(h:cvOk f s=false):
 Calls Tryz.prog 274 #[.int .i64 f,.int .i64 s] w (CvPost w false []):=by
 have G1:=hide (isGrained_any f)
 have G2:=hide (isGrained_any s)
 have HN:=hide (org_nil w w.heap.size)
 unfold cvOk at h
 cases e1:grn f
 ·rw [e1] at G1
  clear h e1
  go_enter Tryz.func274,Tryz.ntmps274
  go_wp2_with fail
  refine (G1.out w).mono ?_
  rintro e w1 ⟨rfl,rfl⟩
  go_wp2_with fail
  go_ret2
  exact ⟨none,0,0,rfl,HN.out,Below.refl _ _⟩
 ·rw [e1] at G1 h
  have hf:0≤f:=by unfold grn at e1;simp at e1;omega
  cases e2:grn s
  ·rw [e2] at G2
   clear h e1 e2
   go_enter Tryz.func274,Tryz.ntmps274
   go_wp2_with fail
   refine (G1.out w).mono ?_
   rintro e w1 ⟨rfl,rfl⟩
   go_wp2_with fail
   refine (G2.out w).mono ?_
   rintro e w1 ⟨rfl,rfl⟩
   go_wp2_with fail
   go_ret2
   exact ⟨none,0,0,rfl,HN.out,Below.refl _ _⟩
  ·rw [e2] at G2 h
   have hlt:262144 - f<s:=by simp at h;omega
   clear h e1 e2
   go_enter Tryz.func274,Tryz.ntmps274
   go_wp2_with fail
   refine (G1.out w).mono ?_
   rintro e w1 ⟨rfl,rfl⟩
   go_wp2_with fail
   refine (G2.out w).mono ?_
   rintro e w1 ⟨rfl,rfl⟩
   go_wp2_with fail
   go_ret2
   exact ⟨none,0,0,rfl,HN.out,Below.refl _ _⟩
def cvL (f s:Int):List Rg:=if cvOk f s then cvAll f s else []
theorem iCover_any (f s:Int)(w:World)(hs0:-9223372036854775808≤f∧f≤9223372036854775807):
 Calls Tryz.prog 274 #[.int .i64 f,.int .i64 s] w (CvPost w (cvOk f s) (cvL f s)):=by
 unfold cvL
 cases e:cvOk f s
 ·exact iCover_bad f s w hs0 e
 ·unfold cvOk grn at e
  simp at e
  exact iCover_good f s w (by omega) (by omega) (by omega) (by omega) (by omega)
def ci (i0 j i:Nat):Nat:=min (i - i0) j
theorem ci_in':∀ (i0:Fin 8) (j:Fin 9) (i:Fin 8),(i0.val≤i.val∧i.val<i0.val+j.val)→(ci i0 j (i.val+1)=ci i0 j i+1∧2 ^ i.val - 1 - runq i0 (ci i0 j i)=2 ^ (i.val+1) - 1 - runq i0 (ci i0 j (i.val+1))):=by decide +kernel
theorem ci_out':∀ (i0:Fin 8) (j:Fin 9) (i:Fin 8),((i.val<i0.val∨i0.val+j.val≤i.val)∧i0.val+j.val≤8)→(ci i0 j (i.val+1)=ci i0 j i∧2 ^ i.val - 1 - runq i0 (ci i0 j i)+2 ^ i.val=2 ^ (i.val+1) - 1 - runq i0 (ci i0 j (i.val+1))):=by decide +kernel
theorem ci_in (i0:Nat)(h0:i0<8)(j:Nat)(hj:j<9)(i:Nat)(hi:i<8)(h:i0≤i∧i<i0+j):ci i0 j (i+1)=ci i0 j i+1∧2 ^ i - 1 - runq i0 (ci i0 j i)=2 ^ (i+1) - 1 - runq i0 (ci i0 j (i+1)):=ci_in' ⟨i0,h0⟩ ⟨j,hj⟩ ⟨i,hi⟩ h
theorem ci_out (i0:Nat)(h0:i0<8)(j:Nat)(hj:j<9)(i:Nat)(hi:i<8)(h:(i<i0∨i0+j≤i)∧i0+j≤8):ci i0 j (i+1)=ci i0 j i∧2 ^ i - 1 - runq i0 (ci i0 j i)+2 ^ i=2 ^ (i+1) - 1 - runq i0 (ci i0 j (i+1)):=ci_out' ⟨i0,h0⟩ ⟨j,hj⟩ ⟨i,hi⟩ h
theorem ci_end:∀ i0,i0<8→∀ j,j<9→i0+j≤8→ci i0 j 8=j:=by decide +kernel
def jj (a en l:Int):Nat:=if a % (2:Int)^(l - 3).toNat=0 then jOf a en l else 0
theorem qOf_wide (a en l:Int)(h:8≤l):qOf a en l=runq (i0Of a l) (jj a en l):=by
 unfold qOf jj
 rw [if_neg (by omega)]
 split
 ·rfl
 ·rw [runq_zero]
theorem jj_le (a en l:Int)(hi:i0Of a l<8):i0Of a l+jj a en l≤8:=by
 unfold jj
 split
 ·unfold jOf;omega
 ·omega
theorem part_in (a en l P N:Int)(hl:5≤l)(hl2:l≤14)(hP:(2:Int)^(l - 3).toNat=P)(hN:(2:Int)^l.toNat=N)(ha:0≤a)(hae:a<en)(hen:en≤262144)(i:Nat)(hi:i<8):
 (a≤baseOf a l+(i:Int) * P∧baseOf a l+(i:Int) * P+P≤en∧a % P=0) ↔ (i0Of a l≤i∧i<i0Of a l+jj a en l):=by
 obtain ⟨g1,g2,g3,g4,g5,g6,g7⟩:=parts a l P N hl hl2 hP hN ha (by omega)
 unfold jj
 rw [hP]
 by_cases hm:a % P=0
 ·rw [if_pos hm]
  have hb:baseOf a l=a - a % N:=by unfold baseOf;rw [hN]
  have g6':=g6 hm
  have hd0:0≤(en - a) / P:=Int.ediv_nonneg (by omega) (by omega)
  have e1:(a≤baseOf a l+(i:Int) * P) ↔ i0Of a l≤i:=by
   rw [hb,g6']
   constructor
   ·intro h
    have:(i0Of a l:Int) * P≤(i:Int) * P:=by omega
    have:=Int.le_of_mul_le_mul_right this (by omega)
    omega
   ·intro h
    have:(i0Of a l:Int) * P≤(i:Int) * P:=Int.mul_le_mul_of_nonneg_right (by omega) (by omega)
    omega
  have e2:i0Of a l≤i→((baseOf a l+(i:Int) * P+P≤en) ↔ ((i - i0Of a l:Nat):Int)<(en - a) / P):=by
   intro h
   rw [hb,g6']
   have e3:((i - i0Of a l:Nat):Int)=(i:Int) - (i0Of a l:Int):=by omega
   have e4:(((i:Int) - (i0Of a l:Int))+1) * P=(i:Int) * P - (i0Of a l:Int) * P+P:=by rw [Int.add_mul,Int.sub_mul];omega
   rw [e3]
   constructor
   ·intro h
    have:=Int.le_ediv_of_mul_le (c:=P) (a:=(i:Int) - (i0Of a l:Int)+1) (b:=en - a) (by omega) (by omega)
    omega
   ·intro h
    have:(i:Int) - (i0Of a l:Int)+1≤(en - a) / P:=by omega
    have:=Int.mul_le_of_le_ediv (by omega) this
    omega
  have e5:jOf a en l=min (8 - i0Of a l) ((en - a) / P).toNat:=by unfold jOf;rw [hP]
  rw [e5,e1]
  constructor
  ·rintro ⟨h1,h2,_⟩
   have:=(e2 h1).1 h2
   omega
  ·rintro ⟨h1,h2⟩
   exact ⟨h1,(e2 h1).2 (by omega),hm⟩
 ·rw [if_neg hm]
  constructor
  ·rintro ⟨_,_,h⟩
   exact absurd h hm
  ·intro h
   omega
theorem div_mul_base (a N:Int)(h0:0≤a)(hN:0<N):a / N * N=a - a % N:=by
 have:=Int.mul_ediv_add_emod a N
 rw [Int.mul_comm]
 omega
def BePost (w:World)(b l c:Int)(q:Nat)(e:Ending)(w':World):Prop:=
 ∃ o:Int,e=.returned (.tuple #[.agg #[.int .i64 b,.int .i64 l,.int .i64 o,.bool false,.bool false,.bool false],.int .i64 c])∧(0<c→o=255 - (q:Int))∧Below w.heap.size w w'
theorem be_end (w W:World)(tmps:Array Value)(b l o c:Int)(q:Nat)(h6:tmps[6]?=some (.pointer (some ⟨w.heap.size,0,none⟩)))(h7:tmps[7]?=some (.int .i64 c))
 (hz:Blk W w.heap.size #[.int .i64 b,.int .i64 l,.int .i64 o,.bool false,.bool false,.bool false] 158) (hB:Below w.heap.size w W) (ho:0<c→o=255 - (q:Int)):
 bodyPost Tryz.prog Tryz.f247 (BePost w b l c q) Exit.ret ⟨tmps,[]⟩ W:=by
 refine bodyPost_ret (v:=.tuple #[.agg #[.int .i64 b,.int .i64 l,.int .i64 o,.bool false,.bool false,.bool false],.int .i64 c]) ?_ rfl ⟨o,rfl,ho,hB⟩
 obtain ⟨p1,p2,p3,p4,p5,p6,p7⟩:=hz.six'
 simp [results,Tryz.results247,go_sem,h6,h7,p1,p2,p3,p4,p5,p6]
theorem be_set {w2:World}{g:Nat}(hz:Blk w2 g #[.int .i64 0,.int .i64 0,.int .i64 0,.bool false,.bool false,.bool false] 158)(b l o:Int):
 Blk ((((((w2.setCell ⟨g,0,none⟩ (.int .i64 b)).setCell ⟨g,1,none⟩ (.int .i64 l)).setCell ⟨g,2,none⟩ (.int .i64 o)).setCell ⟨g,3,none⟩ (.bool false)).setCell ⟨g,4,none⟩ (.bool false)).setCell ⟨g,5,none⟩ (.bool false)) g #[.int .i64 b,.int .i64 l,.int .i64 o,.bool false,.bool false,.bool false] 158:=
 Blk.set (Blk.set (Blk.set (Blk.set (Blk.set (Blk.set hz 0 _) 1 _) 2 _) 3 _) 4 _) 5 _
theorem be_below {B:Nat}{w w2:World}{g:Nat}(hg:B≤g)(h:Below B w w2)(b l o:Int):
 Below B w ((((((w2.setCell ⟨g,0,none⟩ (.int .i64 b)).setCell ⟨g,1,none⟩ (.int .i64 l)).setCell ⟨g,2,none⟩ (.int .i64 o)).setCell ⟨g,3,none⟩ (.bool false)).setCell ⟨g,4,none⟩ (.bool false)).setCell ⟨g,5,none⟩ (.bool false)):=
 (((((h.setCell hg _).setCell hg _).setCell hg _).setCell hg _).setCell hg _).setCell hg _
theorem l2Best_narrow (a s l:Int)(w:World)(hl:5≤l)(hl2:l<8)(ha:0≤a)(hs:0<s)(has:a+s≤262144):
 Calls Tryz.prog 247 #[.int .i64 l,.int .i64 a,.int .i64 s] w (BePost w (baseOf a l) l (cnt l (qOf a (a+s) l)) (qOf a (a+s) l)):=by
 obtain ⟨P,hP⟩:∃ P,(2:Int)^(l - 3).toNat=P:=⟨_,rfl⟩
 obtain ⟨N,hN⟩:∃ N,(2:Int)^l.toNat=N:=⟨_,rfl⟩
 obtain ⟨g1,g2,g3,g4,g5,g6,g7⟩:=parts a l P N hl (by omega) hP hN ha (by omega)
 obtain ⟨b0,b1,b2,b3,b4⟩:=base_ok a l N hl (by omega) hN ha (by omega)
 have hdm:=div_mul_base a N ha (by omega)
 obtain ⟨b,hb⟩:∃ b,b=a - a % N:=⟨_,rfl⟩
 have hbo:baseOf a l=b:=by unfold baseOf;rw [hN,hb]
 rw [← hb] at b0 b1 b2 hdm
 have HP2:=hide (fun w=>l2Power_any l (by omega) (by omega) w)
 rw [hN] at HP2
 have hwf:(Lit.int .i64 b).wf=true:=by simp [Lit.wf,IntKind.min,IntKind.max,IntKind.bits,IntKind.signed];omega
 have HR:=hide (fun w=>sRegionOk_any b l 0 false false false w hwf)
 have hrok:rok b l 0=true:=by unfold rok;rw [hN];simp;omega
 rw [hrok] at HR
 rw [hbo]
 have h8:8 * P≤1024:=by
  have:l=5∨l=6∨l=7:=by omega
  rcases this with rfl | rfl | rfl <;> (simp at hP;omega)
 have HE:=hide (show ∀ c:Bool,(c=true ↔ (a=b∧N≤s))→qOf a (a+s) l=(if c then 255 else 0)∧cnt l (qOf a (a+s) l)=(if c then N else 0) from by
  intro c hc
  have e:qOf a (a+s) l=(if c then 255 else 0):=by
   unfold qOf
   rw [if_pos hl2,hN]
   cases c
   ·rw [if_neg (by simp at hc;omega)];rfl
   ·have:=hc.1 rfl
    rw [if_pos (by omega)];rfl
  refine ⟨e,?_⟩
  rw [e]
  cases c
  ·exact cnt_zero l
  ·show cnt l 255=N
   unfold cnt
   rw [hP,show popc 255=8 from rfl,g1]
   rfl)
 have hN1:N≤1024:=by omega
 have hN0:0<N:=by omega
 clear hP hN g1 g2 g3 g4 g5 g6 g7 hrok hbo h8 b2 b3 b4 hb hwf
 go_enter Tryz.func247,Tryz.ntmps247
 go_wp2_with fail
 refine (HP2.out _).mono ?_
 rintro e w1 ⟨rfl,rfl⟩
 go_wp2_with fail
 refine (HR.out _).mono ?_
 rintro e w2 ⟨rfl,hb2⟩
 have kz:=((Blk.new w #[.int .i64 0,.int .i64 0,.int .i64 0,.bool false,.bool false,.bool false] 158).alloc (.cells #[.int .i64 b,.int .i64 l,.int .i64 0,.bool false,.bool false,.bool false] 158)).below hb2
 have kr:=(Blk.new (w.alloc (.cells #[.int .i64 0,.int .i64 0,.int .i64 0,.bool false,.bool false,.bool false] 158)) #[.int .i64 b,.int .i64 l,.int .i64 0,.bool false,.bool false,.bool false] 158).below hb2
 simp only [World.size_alloc] at kr
 have HB2:=hide ((((Below.refl w.heap.size w).alloc (Nat.le_refl _) (.cells #[.int .i64 0,.int .i64 0,.int .i64 0,.bool false,.bool false,.bool false] 158)).alloc (by simp) (.cells #[.int .i64 b,.int .i64 l,.int .i64 0,.bool false,.bool false,.bool false] 158)).trans (hb2.mono (by simp;omega)))
 obtain ⟨q1,q2,q3,q4,q5,q6,q7⟩:=kz.six'
 obtain ⟨p1,p2,p3,p4,p5,p6,p7⟩:=kr.six'
 have KZ:=hide kz
 clear kz kr hb2
 by_cases hba:b=a
 ·subst hba
  by_cases hNs:s<N
  ·obtain ⟨x1,x2⟩:=HE.out false (by simp;omega)
   have X:=hide (And.intro x1 x2)
   clear x1 x2 HE
   go_wp2_with fail
   rw [X.out.2,X.out.1]
   exact be_end w _ _ b l 0 0 0 rfl rfl (be_set KZ.out b l 0) (be_below (Nat.le_refl _) HB2.out b l 0) (fun h=>absurd h (by omega))
  ·obtain ⟨x1,x2⟩:=HE.out true (by simp;omega)
   have X:=hide (And.intro x1 x2)
   clear x1 x2 HE
   go_wp2_with fail
   rw [X.out.2,X.out.1]
   exact be_end w _ _ b l 0 N 255 rfl rfl (be_set KZ.out b l 0) (be_below (Nat.le_refl _) HB2.out b l 0) (fun _=>rfl)
 ·obtain ⟨x1,x2⟩:=HE.out false (by simp;omega)
  have X:=hide (And.intro x1 x2)
  have hba':(b != a)=true:=by simpa using hba
  clear x1 x2 HE hba
  go_wp2_with fail
  rw [X.out.2,X.out.1]
  exact be_end w _ _ b l 0 0 0 rfl rfl (be_set KZ.out b l 0) (be_below (Nat.le_refl _) HB2.out b l 0) (fun h=>absurd h (by omega))
theorem l2Best_wide (a s l:Int)(w:World)(hl:8≤l)(hl2:l≤14)(ha:0≤a)(hs:0<s)(has:a+s≤262144):
 Calls Tryz.prog 247 #[.int .i64 l,.int .i64 a,.int .i64 s] w (BePost w (baseOf a l) l (cnt l (qOf a (a+s) l)) (qOf a (a+s) l)):=by
 obtain ⟨P,hP⟩:∃ P,(2:Int)^(l - 3).toNat=P:=⟨_,rfl⟩
 obtain ⟨N,hN⟩:∃ N,(2:Int)^l.toNat=N:=⟨_,rfl⟩
 obtain ⟨g1,g2,g3,g4,g5,g6,g7⟩:=parts a l P N (by omega) (by omega) hP hN ha (by omega)
 obtain ⟨b0,b1,b2,b3,b4⟩:=base_ok a l N (by omega) (by omega) hN ha (by omega)
 have hdm:=div_mul_base a N ha (by omega)
 have hjle:=jj_le a (a+s) l g5
 have HIN:=hide (part_in a (a+s) l P N (by omega) hl2 hP hN ha (by omega) has)
 have HQ:=hide (show qOf a (a+s) l=runq (i0Of a l) (jj a (a+s) l)∧cnt l (qOf a (a+s) l)=(jj a (a+s) l:Int) * P from by
  have e:=qOf_wide a (a+s) l hl
  refine ⟨e,?_⟩
  rw [e]
  exact cnt_run l P hP _ _ g5 hjle)
 obtain ⟨b,hb⟩:∃ b,b=a - a % N:=⟨_,rfl⟩
 have hbo:baseOf a l=b:=by unfold baseOf;rw [hN,hb]
 rw [← hb] at b0 b1 b2 hdm
 have HP2:=hide (fun w=>l2Power_any l (by omega) (by omega) w)
 rw [hN] at HP2
 have hwf:(Lit.int .i64 b).wf=true:=by simp [Lit.wf,IntKind.min,IntKind.max,IntKind.bits,IntKind.signed];omega
 have HR:=hide (fun w=>sRegionOk_any b l 0 false false false w hwf)
 have hrok:rok b l 0=true:=by unfold rok;rw [hN];simp;omega
 rw [hrok] at HR
 rw [hbo] at HIN ⊢
 generalize i0Of a l=i0 at *
 generalize jj a (a+s) l=j at *
 generalize qOf a (a+s) l=q at *
 have hd8:N / 8=P:=by omega
 have hN1:N≤16384:=by omega
 have hN0:0<N:=by omega
 clear hP hN g1 g4 g6 g7 hrok hbo b2 b3 b4 hb hwf
 go_enter Tryz.func247,Tryz.ntmps247
 go_wp2_with fail
 refine (HP2.out _).mono ?_
 rintro e w1 ⟨rfl,rfl⟩
 go_wp2_with fail
 refine (HR.out _).mono ?_
 rintro e w2 ⟨rfl,hb2⟩
 have kz:=((Blk.new w #[.int .i64 0,.int .i64 0,.int .i64 0,.bool false,.bool false,.bool false] 158).alloc (.cells #[.int .i64 b,.int .i64 l,.int .i64 0,.bool false,.bool false,.bool false] 158)).below hb2
 have kr:=(Blk.new (w.alloc (.cells #[.int .i64 0,.int .i64 0,.int .i64 0,.bool false,.bool false,.bool false] 158)) #[.int .i64 b,.int .i64 l,.int .i64 0,.bool false,.bool false,.bool false] 158).below hb2
 simp only [World.size_alloc] at kr
 have HB2:=hide ((((Below.refl w.heap.size w).alloc (Nat.le_refl _) (.cells #[.int .i64 0,.int .i64 0,.int .i64 0,.bool false,.bool false,.bool false] 158)).alloc (by simp) (.cells #[.int .i64 b,.int .i64 l,.int .i64 0,.bool false,.bool false,.bool false] 158)).trans (hb2.mono (by simp;omega)))
 have KZ:=hide kz
 have KR:=hide kr
 clear kz kr hb2
 go_wp2_with fail
 rw [hd8]
 have b1':b≤262144:=by omega
 clear hd8 hdm b1 hN1 hN0
 have HOFF:=hide (show ∀ i,i≤8→∃ o,o=2 ^ i - 1 - runq i0 (ci i0 j i)∧o≤255 from fun i hi=>⟨_,rfl,by
  have:2 ^ i≤2 ^ 8:=Nat.pow_le_pow_right (by omega) hi
  omega⟩)
 go_loopw [12,13] (fun c x wr=>∃ (i o:Nat),i≤8∧c=.int .i64 ((ci i0 j i:Int) * P)∧x=.int .i64 (i:Int)∧o=2 ^ i - 1 - runq i0 (ci i0 j i)∧Blk wr (w.heap.size+1) #[.int .i64 b,.int .i64 l,.int .i64 (o:Int),.bool false,.bool false,.bool false] 158∧Blk wr w.heap.size #[.int .i64 0,.int .i64 0,.int .i64 0,.bool false,.bool false,.bool false] 158∧Below w.heap.size w wr) (fun _ x _=>8 - (intOf x).toNat)
 case atStart=>
  have h0:ci i0 j 0=0:=by simp [ci]
  exact ⟨0,0,by omega,by rw [h0];simp,rfl,by simp,KR.out,KZ.out,HB2.out⟩
 case round=>
  obtain ⟨i,o,hi,rfl,rfl,ho,kr,kz,hB⟩:=hrel
  have ho8:o≤255:=by
   have:2 ^ i≤2 ^ 8:=Nat.pow_le_pow_right (by omega) hi
   omega
  have hci:ci i0 j i≤8:=by unfold ci;omega
  obtain ⟨c,hc⟩:∃ c:Int,c=(ci i0 j i:Int) * P:=⟨_,rfl⟩
  have hc0:0≤c:=by rw [hc];exact Int.mul_nonneg (by omega) (by omega)
  have hc1:c≤16384:=by
   have:(ci i0 j i:Int) * P≤8 * P:=Int.mul_le_mul_of_nonneg_right (by omega) (by omega)
   omega
  have HCC:=hide hc
  rw [← hc]
  have HOO:=hide ho
  have HB:=hide hB
  have KR2:=hide kr
  have KZ2:=hide kz
  obtain ⟨q1,q2,q3,q4,q5,q6,q7⟩:=kz.six'
  obtain ⟨p1,p2,p3,p4,p5,p6,p7⟩:=kr.six'
  clear hc ho kr kz hB HB2 KZ KR
  by_cases h8:i<8
  ·have hiP0:0≤(i:Int) * P:=Int.mul_nonneg (by omega) (by omega)
   have hiP1:(i:Int) * P≤16384:=by
    have:(i:Int) * P≤8 * P:=Int.mul_le_mul_of_nonneg_right (by omega) (by omega)
    omega
   have hin:=HIN.out i h8
   by_cases hp:i0≤i∧i<i0+j
   ·obtain ⟨k1,k2,k3⟩:=hin.2 hp
    have HN:=hide (ci_in i0 g5 j (by omega) i h8 hp)
    clear hin hp
    go_wp2_with fail
    constructor
    ·exact ⟨i+1,o,by omega,by rw [HN.out.1,HCC.out];congr 1;rw [Int.natCast_add,Int.add_mul];simp,by go_num,by rw [HOO.out];exact HN.out.2,KR2.out,KZ2.out,HB.out⟩
    ·simp [intOf];omega
   ·have HN:=hide (ci_out i0 g5 j (by omega) i h8 ⟨by omega,hjle⟩)
    obtain ⟨X,hX⟩:∃ X:Nat,X=2 ^ i:=⟨_,rfl⟩
    have hX8:X≤256:=by
     have:2 ^ i≤2 ^ 8:=Nat.pow_le_pow_right (by omega) hi
     omega
    have HP3:=hide (show ∀ w,Calls Tryz.prog 275 #[.int .i64 (i:Int)] w fun e w'=>e=.returned (.int .i64 (X:Int))∧w'=w from fun w=>(l2Power_any (i:Int) (by omega) (by omega) w).mono fun e w' h=>⟨by rw [h.1,hX];simp,h.2⟩)
    have HX:=hide hX
    have hor:(b+(i:Int) * P<a)∨(a≤b+(i:Int) * P∧a+s<b+(i:Int) * P+P)∨(a≤b+(i:Int) * P∧b+(i:Int) * P+P≤a+s∧a % P≠0):=by
     by_cases u1:a≤b+(i:Int) * P
     ·by_cases u2:b+(i:Int) * P+P≤a+s
      ·exact Or.inr (Or.inr ⟨u1,u2,fun u3=>hp (hin.1 ⟨u1,u2,u3⟩)⟩)
      ·exact Or.inr (Or.inl ⟨u1,by omega⟩)
     ·exact Or.inl (by omega)
    clear hin hp hX
    have HREL:=hide (show ∀ W,W=(wr.setCell ⟨w.heap.size+1,2,none⟩ (.int .i64 ((o:Int)+(X:Int)))).drew→∃ (i_1 o:Nat),i_1≤8∧Value.int .i64 c=.int .i64 ((ci i0 j i_1:Int) * P)∧Value.int .i64 ((i:Int)+1)=.int .i64 (i_1:Int)∧o=2 ^ i_1 - 1 - runq i0 (ci i0 j i_1)∧Blk W (w.heap.size+1) #[.int .i64 b,.int .i64 l,.int .i64 (o:Int),.bool false,.bool false,.bool false] 158∧Blk W w.heap.size #[.int .i64 0,.int .i64 0,.int .i64 0,.bool false,.bool false,.bool false] 158∧Below w.heap.size w W from by
     rintro W rfl
     refine ⟨i+1,o+X,by omega,by rw [HN.out.1,HCC.out],by simp,by rw [HOO.out,HX.out];exact HN.out.2,?_,(show Blk (wr.setCell ⟨w.heap.size+1,2,none⟩ (.int .i64 ((o:Int)+(X:Int)))) _ _ _ from Blk.other KZ2.out _ _ (by simp)),(HB.out.setCell (by simp) _).drew⟩
     have:=Blk.set KR2.out 2 (.int .i64 ((o:Int)+(X:Int)))
     rw [Int.natCast_add]
     exact this)
    have hwr:IntKind.i64.wrap ((o:Int)+(X:Int))=(o:Int)+(X:Int):=cv_wrap (by omega) (by omega)
    rcases hor with u | ⟨u1,u2⟩ | ⟨u1,u2,u3⟩
    ·go_wp2_with fail
     go_region_with (go_at_call 275;refine (HP3.out _).mono ?_;rintro e w3 ⟨rfl,rfl⟩)
     all_goals
      try rw [hwr]
      go_wp2_with fail
      constructor
      ·exact HREL.out _ rfl
      ·simp [intOf];omega
    ·have u2n:¬ (b+(i:Int) * P+P≤a+s):=by omega
     go_wp2_with fail
     all_goals first
      | (exfalso;omega)
      | (go_region_with (go_at_call 275;refine (HP3.out _).mono ?_;rintro e w3 ⟨rfl,rfl⟩)
         all_goals (try rw [hwr])
         all_goals go_wp2_with fail
         all_goals (refine ⟨HREL.out _ rfl,?_⟩;simp [intOf];omega))
    ·have u3':(a % P == 0)=false:=by simpa using u3
     clear u3
     go_wp2_with fail
     go_region_with (go_at_call 275;refine (HP3.out _).mono ?_;rintro e w3 ⟨rfl,rfl⟩)
     all_goals
      try rw [hwr]
      go_wp2_with fail
      constructor
      ·exact HREL.out _ rfl
      ·simp [intOf];omega
  ·have hi8:i=8:=by omega
   subst hi8
   have hq:(o:Int)=255 - (q:Int):=by
    have:=HOO.out
    rw [ci_end i0 g5 j (by omega) hjle,← HQ.out.1] at this
    have hq255:q<256:=by rw [HQ.out.1];exact runq_lt i0 g5 j (by omega) hjle
    omega
   have hc':cnt l q=c:=by rw [HQ.out.2,HCC.out,ci_end i0 g5 j (by omega) hjle]
   have HC2:=hide hc'
   have HQ2:=hide hq
   clear hq hc'
   go_wp2_with fail
   rw [HC2.out]
   refine be_end w _ _ b l (o:Int) c q ?_ ?_ (be_set KZ2.out b l (o:Int)) (be_below (Nat.le_refl _) HB.out b l (o:Int)) (fun _=>HQ2.out)
   ·rfl
   ·rfl
theorem l2Best_any (a s l:Int)(w:World)(hl:5≤l)(hl2:l≤14)(ha:0≤a)(hs:0<s)(has:a+s≤262144):
 Calls Tryz.prog 247 #[.int .i64 l,.int .i64 a,.int .i64 s] w (BePost w (baseOf a l) l (cnt l (qOf a (a+s) l)) (qOf a (a+s) l)):=by
 by_cases h:l<8
 ·exact l2Best_narrow a s l w hl h ha hs has
 ·exact l2Best_wide a s l w (by omega) hl2 ha hs has
theorem sCover_bad (f s:Int)(w:World)(h1:-9223372036854775808≤f∧f≤9223372036854775807)(h2:-9223372036854775808≤s∧s≤9223372036854775807)(h:cvOk f s=false):
 Calls Tryz.prog 202 #[.int .i64 f,.int .i64 s] w (CvPost w false []):=by
 have HO:=hide (or_empty w w.heap.size (Nat.le_refl _))
 have HB:=hide ((Below.refl w.heap.size w).alloc (Nat.le_refl _) (.cells #[] 158))
 have HE:=hide (show ∀ e W,W=w.alloc (.cells #[] 158)→e=Ending.returned (.tuple #[.slice (some ⟨w.heap.size,0,none⟩) 0 0,.bool false])→CvPost w false [] e W from by
  rintro e W rfl rfl
  exact ⟨_,0,0,rfl,HO.out,HB.out⟩)
 have hor:f<0∨(0≤f∧s<0)∨(0≤f∧0≤s∧262144<f)∨(0≤f∧0≤s∧f≤262144∧262144<s)∨(0≤f∧0≤s∧f≤262144∧s≤262144∧262144<f+s)∨(0≤f∧0≤s∧f≤262144∧s≤262144∧f+s≤262144∧f % 32≠0)∨(0≤f∧0≤s∧f≤262144∧s≤262144∧f+s≤262144∧f % 32=0∧s % 32≠0):=by
  unfold cvOk grn at h
  simp at h
  omega
 clear h
 rcases hor with u | ⟨u1,u2⟩ | ⟨u1,u2,u3⟩ | ⟨u1,u2,u3,u4⟩ | ⟨u1,u2,u3,u4,u5⟩ | ⟨u1,u2,u3,u4,u5,u6⟩ | ⟨u1,u2,u3,u4,u5,u6,u7⟩
 case inr.inr.inr.inr.inr.inl=>
  have u6':(f % 32 != 0)=true:=by simpa using u6
  clear u6
  go_enter Tryz.func202,Tryz.ntmps202
  go_wp2_with fail
  go_ret2
  exact HE.out _ _ rfl rfl
 case inr.inr.inr.inr.inr.inr=>
  have u6':(f % 32 != 0)=false:=by simpa using u6
  have u7':(s % 32 != 0)=true:=by simpa using u7
  clear u6 u7
  go_enter Tryz.func202,Tryz.ntmps202
  go_wp2_with fail
  go_ret2
  exact HE.out _ _ rfl rfl
 all_goals
  go_enter Tryz.func202,Tryz.ntmps202
  go_wp2_with fail
  go_ret2
  exact HE.out _ _ rfl rfl
def bcells:CSt→Array Value
 | none=>#[.int .i64 0,.int .i64 0,.int .i64 0,.bool false,.bool false,.bool false]
 | some (b,l,q)=>#[.int .i64 b,.int .i64 l,.int .i64 (255 - (q:Int)),.bool false,.bool false,.bool false]
theorem bcells_six (s:CSt):∃ x y z,bcells s=#[.int .i64 x,.int .i64 y,.int .i64 z,.bool false,.bool false,.bool false]:=by
 match s with
 | none=>exact ⟨_,_,_,rfl⟩
 | some (b,l,q)=>exact ⟨_,_,_,rfl⟩
theorem sCnt_le (a en:Int)(ha:0≤a)(hae:a<en)(hen:en≤262144)(n:Nat)(hn:n≤10):sCnt (cvFold a en n)≤262144:=by
 match h:cvFold a en n with
 | none=>simp [sCnt]
 | some (b,l,q)=>
   obtain ⟨k1,k2,k3,k4⟩:=cvFold_gives a en ha hae hen n hn b l q h
   obtain ⟨c1,c2⟩:=qOf_cnt a en l k1 k2 ha hae hen
   rw [← k4] at c1
   simp only [sCnt]
   omega
set_option maxRecDepth 100000 in
theorem sCover_good (f s:Int)(w:World)(hf:0≤f)(hf32:f % 32=0)(hs:0≤s)(hs32:s % 32=0)(hfs:s≤262144 - f):
 Calls Tryz.prog 202 #[.int .i64 f,.int .i64 s] w (CvPost w true (cvAll f s)):=by
 obtain ⟨i0,hi,hz0,hz1,hz2⟩:=info_parts infoR
 obtain ⟨L,hL⟩:∃ L,L=cvAll f s:=⟨_,rfl⟩
 rw [← hL]
 unfold cvAll at hL
 have HL:=hide hL
 clear hL
 have HO:=hide (or_empty w w.heap.size (Nat.le_refl _))
 have HB:=hide ((Below.refl w.heap.size w).alloc (Nat.le_refl _) (.cells #[] 158))
 have k1:(f % 32 != 0)=false:=by simpa using hf32
 have k2:(s % 32 != 0)=false:=by simpa using hs32
 have k3:f+s≤262144:=by omega
 have k4:f≤262144:=by omega
 have k5:s≤262144:=by omega
 go_enter Tryz.func202,Tryz.ntmps202
 go_wp2_with fail
 go_loopw [0,1,6] (fun x y r wr=>∃ (A:Option Addr) (m cap:Nat) (rs:List Rg) (n:Nat) (a z:Int),x=.int .i64 a∧y=.int .i64 z∧r=.slice A m cap∧f≤a∧a+z=f+s∧0≤z∧a % 32=0∧z≤32 * (n:Int)∧m+n≤8192∧ORg wr w.heap.size (.slice A m cap) rs∧L=rs++cvList (f+s) n a∧Below w.heap.size w wr) (fun _ y _ _=>(intOf y).toNat)
 case atStart=>exact ⟨_,0,0,[],(s / 32).toNat,f,s,rfl,rfl,rfl,by omega,by omega,by omega,hf32,by omega,by omega,HO.out,by rw [HL.out];rfl,HB.out⟩
 case round=>
  obtain ⟨A,m,cap,rs,n,a,z,rfl,rfl,rfl,ha,haz,hz,ha32,hn,hmn,hO,hLL,hB⟩:=hrel
  obtain ⟨w9,hw9⟩:∃ w9,w9=wr:=⟨_,rfl⟩
  subst hw9
  by_cases hlt:0<z
  ·rw [← haz] at hLL
   have hlen:=(or_rs hO).1
   obtain ⟨b,l,q,hF,hl,hl2,hq,hc1,hc2,hc3,hb,_⟩:=chosen a (a+z) (by omega) (by omega) (by omega) ha32 (by omega)
   obtain ⟨n,rfl⟩:∃ n',n=n'+1:=⟨n - 1,by omega⟩
   rw [cvList_step (a+z) n a b l q (by omega) hF] at hLL
   have hbw:0≤b∧b≤262144:=by
    have:=base_ok a l _ hl hl2 rfl (by omega) (by omega)
    have:=pow_pos l.toNat
    rw [hb]
    unfold baseOf
    omega
   clear hb
   have HF:=hide hF
   have HLL:=hide hLL
   have HO1:=hide hO
   have HB1:=hide hB
   have HLEN0:=hide hlen
   have HAZ:=hide haz
   have hsz:=hB.size
   have KZ:=hide (Blk.new w9 #[.int .i64 0,.int .i64 0,.int .i64 0,.bool false,.bool false,.bool false] 158)
   clear hLL hO hB hF hlen HO HB
   go_wp2_with fail
   go_loopw [8,9] (fun mo lg wq=>∃ (k:Nat),k≤10∧mo=.int .i64 (sCnt (cvFold a (a+z) k))∧lg=.int .i64 (5+(k:Int))∧Blk wq w9.heap.size (bcells (cvFold a (a+z) k)) 158∧Below w9.heap.size w9 wq) (fun _ lg _=>15 - (intOf lg).toNat)
   case atStart=>exact ⟨0,by omega,by rw [cvFold_none];rfl,rfl,by rw [cvFold_none];exact KZ.out,(Below.refl _ _).alloc (Nat.le_refl _) _⟩
   case round=>
    obtain ⟨k,hk,rfl,rfl,kb,hBq⟩:=hrel
    have hc0:=sCnt_nonneg (cvFold a (a+z) k)
    have hc9:=sCnt_le a (a+z) (by omega) (by omega) (by omega) k hk
    by_cases hk10:k<10
    ·have HBE:=hide (l2Best_any a z (5+(k:Int)) wr (by omega) (by omega) (by omega) hlt (by omega))
     have HSU:=hide (cvFold_succ a (a+z) k)
     obtain ⟨x1,x2,x3,hx⟩:=bcells_six (cvFold a (a+z) k)
     rw [hx] at kb
     have hqc:=qOf_cnt a (a+z) (5+(k:Int)) (by omega) (by omega) (by omega) (by omega) (by omega)
     have hqn:=cnt_nonneg (5+(k:Int)) (qOf a (a+z) (5+(k:Int)))
     generalize hst:cvFold a (a+z) k=st at *
     generalize hcq:cnt (5+(k:Int)) (qOf a (a+z) (5+(k:Int)))=c at *
     generalize hbb:baseOf a (5+(k:Int))=bb at *
     obtain ⟨sc,hsc⟩:∃ sc,sc=sCnt st:=⟨_,rfl⟩
     rw [← hsc] at hc0 hc9 ⊢
     have HSC:=hide hsc
     have HCQ:=hide hcq
     have HX:=hide hx
     have hcle:c≤262144:=by omega
     have KB:=hide kb
     have HBQ:=hide hBq
     have hszq:=hBq.size
     have hltq:=kb.lt
     clear hsc hcq hx hqc hst hbb kb hBq
     go_wp2_with fail
     refine HBE.out.mono ?_
     rintro e w3 ⟨o,rfl,ho,hb3⟩
     have HO3:=hide ho
     have kb3:=(KB.out.below hb3).alloc (.cells #[.int .i64 bb,.int .i64 (5+(k:Int)),.int .i64 o,.bool false,.bool false,.bool false] 158)
     have hsz3:=hb3.size
     have HB3:=hide ((HBQ.out.trans (hb3.mono hszq)).alloc (by omega) (.cells #[.int .i64 bb,.int .i64 (5+(k:Int)),.int .i64 o,.bool false,.bool false,.bool false] 158))
     have KB3:=hide kb3
     obtain ⟨q1,q2,q3,q4,q5,q6,q7⟩:=kb3.six'
     clear ho hb3 kb3
     by_cases hgt:sc<c
     ·have HE:=hide (show cvFold a (a+z) (k+1)=some (bb,5+(k:Int),qOf a (a+z) (5+(k:Int))) from by
       rw [HSU.out]
       unfold keep
       rw [if_pos (by rw [← HSC.out,HCQ.out];exact hgt)])
      go_wp2_with fail
      refine ⟨⟨k+1,by omega,by rw [HE.out];exact congrArg (Value.int .i64) HCQ.out.symm,by go_num,?_,be_below (Nat.le_refl _) HB3.out bb (5+(k:Int)) o⟩,by simp [intOf];omega⟩
      rw [HE.out]
      have e2:bcells (some (bb,5+(k:Int),qOf a (a+z) (5+(k:Int))))=#[.int .i64 bb,.int .i64 (5+(k:Int)),.int .i64 o,.bool false,.bool false,.bool false]:=by
       simp only [bcells]
       rw [HO3.out (by omega)]
      rw [e2]
      exact Blk.set (Blk.set (Blk.set (Blk.set (Blk.set (Blk.set KB3.out 0 _) 1 _) 2 _) 3 _) 4 _) 5 _
     ·have HE:=hide (show cvFold a (a+z) (k+1)=st from by
       rw [HSU.out]
       unfold keep
       rw [if_neg (by rw [← HSC.out,HCQ.out];exact hgt)])
      go_wp2_with fail
      exact ⟨⟨k+1,by omega,by rw [HE.out,HSC.out],by go_num,by rw [HE.out,HX.out];exact KB3.out,HB3.out⟩,by simp [intOf];omega⟩
    ·have hk':k=10:=by omega
     subst hk'
     rw [HF.out] at kb hc0 hc9 ⊢
     obtain ⟨o,ho⟩:∃ o,o=255 - (q:Int):=⟨_,rfl⟩
     obtain ⟨c,hc⟩:∃ c,c=cnt l q:=⟨_,rfl⟩
     have kb':Blk wr w9.heap.size #[.int .i64 b,.int .i64 l,.int .i64 o,.bool false,.bool false,.bool false] 158:=by rw [ho];exact kb
     have hsc:sCnt (some (b,l,q))=c:=hc.symm
     rw [hsc] at hc0 hc9 ⊢
     rw [← hc] at hc1 hc2 hc3 HLL
     rw [← ho] at HLL
     have hwf:wfi b∧wfi l∧wfi o:=by unfold wfi;omega
     have HWF:=hide hwf
     have hO2:=turn_or (S:=fun _=>False) (turn_below hBq) HO1.out (fun _ _=>id)
     have HOWN:=hide (hO2.1.alloc (.cells #[.int .i64 b,.int .i64 l,.int .i64 o,.bool false,.bool false,.bool false] 158))
     rw [HLEN0.out] at HOWN
     have HLEN:=hide (show (cells6 (b,l,o,false,false,false)).length=1 * 6 from rfl)
     have HNEWS:=hide (news6 wr (b,l,o,false,false,false))
     have HONE:=hide (one6 (b,l,o,false,false,false))
     have HRS:=hide hO2.2
     have HLT:=hide hO2.1.lt
     have hszq:=hBq.size
     have HB3:=hide ((HB1.out.trans (hBq.mono hsz)).alloc (by omega) (.cells #[.int .i64 b,.int .i64 l,.int .i64 o,.bool false,.bool false,.bool false] 158))
     obtain ⟨q1,q2,q3,q4,q5,q6,q7⟩:=kb'.six'
     clear hO2 hBq kb kb' ho hc hsc hwf
     go_wp2_with (at_builtin;refine wpList_append_own _ rfl _ _ 68 rfl w.heap.size 158 i0 (.agg #[.int .i64 0,.int .i64 0,.int .i64 0,.bool false,.bool false,.bool false]) 6 32 Tryz.underlying68 hi hz0 hz1 hz2 rfl (by decide) (.slice A m cap) m (flat rs) rfl HOWN.out ⟨wr.heap.size,0,none⟩ 1 1 (cells6 (b,l,o,false,false,false)) rfl HLEN.out HNEWS.out HONE.out (by unfold maxLen;omega) (by omega) (by simp;omega) ?_;intro v' w3 hown3 hgr3 _;obtain ⟨A',cap',he⟩:=or_shape hown3;subst he;have hO3:=or_more (W:=wr) (v:=.slice A m cap) (g:=(b,l,o,false,false,false)) HRS.out HWF.out (by rw [HLEN0.out];exact hown3);have t3:=grown_turn hgr3;have hfar:∀ j,(Value.slice A m cap).ownBlock=some j→w.heap.size≤j:=fun j hj=>(HLT.out j hj).1;have HB4:=hide (below_turn HB3.out t3 hfar (by simp;omega));have HO3:=hide hO3;clear hO3 t3 hfar hown3 hgr3)
     refine ⟨⟨A',m+1,cap',rs++[(b,l,o,false,false,false)],n,a+c,z - c,by go_num,by go_num,rfl,by omega,by omega,by omega,by omega,by omega,by omega,HO3.out,by rw [HLL.out,HAZ.out];simp,HB4.out⟩,?_⟩
     simp [intOf];omega
  ·have hzz:z=0:=by omega
   subst hzz
   have hLe:L=rs:=by rw [hLL,cvList_end _ _ _ (by omega),List.append_nil]
   subst hLe
   have HO1:=hide hO
   have HB1:=hide hB
   clear hLL hO hB
   go_wp2_with fail
   go_ret2
   exact ⟨A,m,cap,rfl,HO1.out,HB1.out⟩
theorem sCover_any (f s:Int)(w:World)(h1:-9223372036854775808≤f∧f≤9223372036854775807)(h2:-9223372036854775808≤s∧s≤9223372036854775807):
 Calls Tryz.prog 202 #[.int .i64 f,.int .i64 s] w (CvPost w (cvOk f s) (cvL f s)):=by
 unfold cvL
 cases e:cvOk f s
 ·exact sCover_bad f s w h1 h2 e
 ·unfold cvOk grn at e
  simp at e
  exact sCover_good f s w (by omega) (by omega) (by omega) (by omega) (by omega)
end Go.Proofs.YtngdgogjlpjjpaeGreat
namespace Go.Proofs.YtngdgogjlpjjpaeGreat
open Go.RowKit Classical
set_option linter.unusedVariables false
set_option linter.unusedSimpArgs false
set_option maxRecDepth 100000
def rgt (r x y:Bool)(g:Rg):Rg:=(g.1,g.2.1,g.2.2.1,r,x,y)
def rts (r x y:Bool)(L:List Rg):List Rg:=L.map (rgt r x y)
theorem rts_len (r x y:Bool)(L:List Rg):(rts r x y L).length=L.length:=by simp [rts]
theorem rts_step (r x y:Bool)(L:List Rg)(k:Nat)(h:k<L.length):(rts r x y L).take (k+1)=(rts r x y L).take k++[rgt r x y (L.getD k z6)]:=by
 rw [List.take_add_one]
 congr 1
 simp [rts,List.getD_eq_getElem?_getD,h]
theorem cvList_len:∀ (n:Nat) (en a:Int),(cvList en n a).length≤n
 | 0,en,a=>by simp [cvList]
 | n+1,en,a=>by
   unfold cvList
   split
   ·unfold cvTurn
    split
    ·have:=cvList_len n en
     simp only [List.length_cons]
     exact Nat.succ_le_succ (this _)
    ·simp
   ·simp
theorem cvL_len (f s:Int):(cvL f s).length≤8192:=by
 unfold cvL
 split
 ·rename_i h
  unfold cvAll
  unfold cvOk grn at h
  simp at h
  have:=cvList_len (s / 32).toNat (f+s) f
  omega
 ·simp
end Go.Proofs.YtngdgogjlpjjpaeGreat
namespace Go.Proofs.YtngdgogjlpjjpaeGreat
open Go.RowKit Classical
set_option linter.unusedVariables false
theorem cell_other {w:World}{g o o' b:Nat}{v:Value}(h:b≠g∨o'≠o):(w.setCell ⟨g,o,none⟩ v).cell? ⟨b,o',none⟩=w.cell? ⟨b,o',none⟩:=
 World.cell?_setCell_other _ _ _ _ (by intro e;injection e;rcases h with h | h <;> simp_all)
theorem cell_same {w:World}{g o:Nat}{u v:Value}(h:w.cell? ⟨g,o,none⟩=some u):(w.setCell ⟨g,o,none⟩ v).cell? ⟨g,o,none⟩=some v:=World.cell?_setCell_same _ _ _ h
def RowW (w:World)(g:Nat)(rs:List Rg):Prop:=
 (∃ cur,Blk w g cur 158)∧∀ i,i<rs.length→At6 w g (i * 6) (rs.getD i z6)
theorem RowW.frozen {w:World}{g:Nat}{rs:List Rg}(h:RowW w g rs)(i:Nat):w.frozen? ⟨g,i,none⟩=false:=by obtain ⟨⟨cur,hb⟩,_⟩:=h;exact hb.frozen i
theorem or_roww {w:World}{base n cap g:Nat}{rs:List Rg}(h:ORg w base (.slice (some ⟨g,0,none⟩) n cap) rs)(hn:n≠0):RowW w g rs:=by
 have hr:=or_rs h
 have hl:=hr.1
 obtain ⟨_,⟨h0,h0'⟩ | ⟨g',cap',cur,hv,hg,hh,h1,h2,h3,h4⟩⟩:=h.1
 ·simp at h0
 ·simp at hv
  obtain ⟨rfl,_⟩:=hv
  exact ⟨⟨cur,hh⟩,fun i hi=>by have:=hr.at i (by omega);rw [Nat.zero_add] at this;exact this⟩
theorem turn_or' {S:Nat→Prop}{base:Nat}{w w':World}{v:Value}{rs:List Rg}(t:Turn S w w')(h:ORg w base v rs)(hk:∀ k,v.ownBlock=some k→¬ S k):ORg w' base v rs:=by
 refine ⟨?_,h.2⟩
 obtain ⟨hl,h0 | ⟨g',cap,cur,rfl,hg,hh,h1,h2,h3,h4⟩⟩:=h.1
 ·exact ⟨hl,.inl h0⟩
 ·exact ⟨hl,.inr ⟨g',cap,cur,rfl,hg,turn_blk t hh (hk g' rfl),h1,h2,h3,h4⟩⟩
theorem or_lt {base:Nat}{w:World}{v:Value}{rs:List Rg}(h:ORg w base v rs)(k:Nat)(hk:v.ownBlock=some k):k<w.heap.size:=by
 obtain ⟨hl,⟨rfl,h0⟩ | ⟨g',cap,cur,rfl,hg,hh,h1,h2,h3,h4⟩⟩:=h.1
 ·cases hk
 ·have e:some g'=some k:=hk
  injection e with e
  subst e
  exact Blk.lt (w:=w) hh
end Go.Proofs.YtngdgogjlpjjpaeGreat
namespace Go.Proofs.YtngdgogjlpjjpaeGreat
open Go.RowKit Classical
set_option linter.unusedVariables false
set_option linter.unusedSimpArgs false
set_option maxRecDepth 100000
theorem mem_getD {zs:List Int}{v:Int}(h:v ∈ zs):∃ k,k<zs.length∧zs.getD k 0=v:=by
 obtain ⟨k,hk,e⟩:=List.mem_iff_getElem.1 h
 exact ⟨k,hk,by simp [List.getD_eq_getElem?_getD,hk,e]⟩
theorem getD_mem' {zs:List Int}{k:Nat}(h:k<zs.length):zs.getD k 0 ∈ zs:=by
 simp [List.getD_eq_getElem?_getD,h]
theorem eqSlot_same (x0:Bool)(x1 x2 x3:Int)(w:World):Calls Tryz.prog 188 #[.agg #[.bool x0,.int .i64 x1,.int .i64 x2,.int .i64 x3],.agg #[.bool x0,.int .i64 x1,.int .i64 x2,.int .i64 x3]] w fun e w'=>e=.returned (.bool true)∧Below w.heap.size w w':=by
 have hB:Below w.heap.size w ((w.alloc (.cells #[.bool x0,.int .i64 x1,.int .i64 x2,.int .i64 x3] 134)).alloc (.cells #[.bool x0,.int .i64 x1,.int .i64 x2,.int .i64 x3] 134)):=((Below.refl _ _).alloc (Nat.le_refl _) _).alloc (by simp) _
 have h0:(x0 != x0)=false:=by cases x0 <;> rfl
 have h1:(x1 != x1)=false:=by simp
 have h2:(x2 != x2)=false:=by simp
 have h3:(x3 != x3)=false:=by simp
 go_enter Tryz.func188,Tryz.ntmps188
 go_wp2
 go_ret
 exact ⟨rfl,hB⟩
theorem eqSlotS_same (a a':Option Addr)(n c c':Nat)(xs:List SlT)(w:World)(h:QS clSl zSl w a n c xs)(h':QS clSl zSl w a' n c' xs):
 Calls Tryz.prog 108 #[.slice a n c,.slice a' n c'] w fun e w'=>e=.returned (.bool true)∧Below w.heap.size w w':=by
 have hne:((n:Int) != (n:Int))=false:=by simp
 have hmx:=h.2.1
 unfold maxLen at hmx
 have HH:=hide (And.intro h h')
 clear h h'
 go_enter Tryz.func108,Tryz.ntmps108
 go_wp2
 go_loopw [5] (fun i wr=>∃ k:Nat,k≤n∧i=.int .i64 k∧Below w.heap.size w wr) (fun i _=>n - (intOf i).toNat)
 case atStart=>exact ⟨0,Nat.zero_le _,rfl,Below.refl _ _⟩
 case round=>
  obtain ⟨k,hk,rfl,hB⟩:=hrel
  by_cases hlt:k<n
  ·have hlt':(k:Int)<(n:Int):=by omega
   obtain ⟨b,f,rfl,q0,q1,q2,q3⟩:=(HH.out.1.below hB).at k hlt _ _ _ _ rfl
   obtain ⟨b',f',rfl,p0,p1,p2,p3⟩:=(HH.out.2.below hB).at k hlt _ _ _ _ rfl
   generalize xs.getD k zSl=r at *
   obtain ⟨x0,x1,x2,x3⟩:=r
   simp only at q0 q1 q2 q3 p0 p1 p2 p3
   have hlb:=World.block_lt_of_cell? _ _ q1
   have hlb':=World.block_lt_of_cell? _ _ p1
   have HB:=hide hB
   clear hB
   go_wp2
   go_region_held3 (fun w'=>w'.cell? ⟨b,f+k * 4,none⟩=some (.bool x0)∧w'.cell? ⟨b,f+k * 4+1,none⟩=some (.int .i64 x1)∧w'.cell? ⟨b,f+k * 4+2,none⟩=some (.int .i64 x2)∧w'.cell? ⟨b,f+k * 4+3,none⟩=some (.int .i64 x3)∧w'.cell? ⟨b',f'+k * 4,none⟩=some (.bool x0)∧w'.cell? ⟨b',f'+k * 4+1,none⟩=some (.int .i64 x1)∧w'.cell? ⟨b',f'+k * 4+2,none⟩=some (.int .i64 x2)∧w'.cell? ⟨b',f'+k * 4+3,none⟩=some (.int .i64 x3)) (go_keep)
    (first
      | (go_at_call 188;refine (eqSlot_same x0 x1 x2 x3 _).mono ?_;rintro e w1 ⟨rfl,hb1⟩;replace hb1:=undrew hb1;have key:∀ g o v,wr.cell? ⟨g,o,none⟩=some v→w1.cell? ⟨g,o,none⟩=some v:=(fun g o v hv=>(hb1.cell (World.block_lt_of_cell? wr _ hv)).trans hv);have r0:=key _ _ _ q0;have r1:=key _ _ _ q1;have r2:=key _ _ _ q2;have r3:=key _ _ _ q3;have s0:=key _ _ _ p0;have s1:=key _ _ _ p1;have s2:=key _ _ _ p2;have s3:=key _ _ _ p3;clear key))
   have HB1:=hide (HB.out.trans (hb1.mono HB.out.size))
   clear q0 q1 q2 q3 p0 p1 p2 p3 hb1 r0 r1 r2 r3 s0 s1 s2 s3
   go_wp2
   go_roundw
   case rel=>exact ⟨k+1,by omega,by go_num,HB1.out⟩
   case measure=>simp [intOf];omega
  ·have HB:=hide hB
   clear hB
   go_wp2
   go_ret
   exact ⟨rfl,HB.out⟩
theorem eqFrame_same (x0:Int)(x1 x2 x3:Int)(w:World):Calls Tryz.prog 189 #[.agg #[.int .i64 x0,.int .i64 x1,.int .i64 x2,.int .i64 x3],.agg #[.int .i64 x0,.int .i64 x1,.int .i64 x2,.int .i64 x3]] w fun e w'=>e=.returned (.bool true)∧Below w.heap.size w w':=by
 have hB:Below w.heap.size w ((w.alloc (.cells #[.int .i64 x0,.int .i64 x1,.int .i64 x2,.int .i64 x3] 136)).alloc (.cells #[.int .i64 x0,.int .i64 x1,.int .i64 x2,.int .i64 x3] 136)):=((Below.refl _ _).alloc (Nat.le_refl _) _).alloc (by simp) _
 have h0:(x0 != x0)=false:=by simp
 have h1:(x1 != x1)=false:=by simp
 have h2:(x2 != x2)=false:=by simp
 have h3:(x3 != x3)=false:=by simp
 go_enter Tryz.func189,Tryz.ntmps189
 go_wp2
 go_ret
 exact ⟨rfl,hB⟩
theorem eqFrameS_same (a a':Option Addr)(n c c':Nat)(xs:List FrT)(w:World)(h:QS clFr zFr w a n c xs)(h':QS clFr zFr w a' n c' xs):
 Calls Tryz.prog 109 #[.slice a n c,.slice a' n c'] w fun e w'=>e=.returned (.bool true)∧Below w.heap.size w w':=by
 have hne:((n:Int) != (n:Int))=false:=by simp
 have hmx:=h.2.1
 unfold maxLen at hmx
 have HH:=hide (And.intro h h')
 clear h h'
 go_enter Tryz.func109,Tryz.ntmps109
 go_wp2
 go_loopw [5] (fun i wr=>∃ k:Nat,k≤n∧i=.int .i64 k∧Below w.heap.size w wr) (fun i _=>n - (intOf i).toNat)
 case atStart=>exact ⟨0,Nat.zero_le _,rfl,Below.refl _ _⟩
 case round=>
  obtain ⟨k,hk,rfl,hB⟩:=hrel
  by_cases hlt:k<n
  ·have hlt':(k:Int)<(n:Int):=by omega
   obtain ⟨b,f,rfl,q0,q1,q2,q3⟩:=(HH.out.1.below hB).at k hlt _ _ _ _ rfl
   obtain ⟨b',f',rfl,p0,p1,p2,p3⟩:=(HH.out.2.below hB).at k hlt _ _ _ _ rfl
   generalize xs.getD k zFr=r at *
   obtain ⟨x0,x1,x2,x3⟩:=r
   simp only at q0 q1 q2 q3 p0 p1 p2 p3
   have hlb:=World.block_lt_of_cell? _ _ q1
   have hlb':=World.block_lt_of_cell? _ _ p1
   have HB:=hide hB
   clear hB
   go_wp2
   go_region_held3 (fun w'=>w'.cell? ⟨b,f+k * 4,none⟩=some (.int .i64 x0)∧w'.cell? ⟨b,f+k * 4+1,none⟩=some (.int .i64 x1)∧w'.cell? ⟨b,f+k * 4+2,none⟩=some (.int .i64 x2)∧w'.cell? ⟨b,f+k * 4+3,none⟩=some (.int .i64 x3)∧w'.cell? ⟨b',f'+k * 4,none⟩=some (.int .i64 x0)∧w'.cell? ⟨b',f'+k * 4+1,none⟩=some (.int .i64 x1)∧w'.cell? ⟨b',f'+k * 4+2,none⟩=some (.int .i64 x2)∧w'.cell? ⟨b',f'+k * 4+3,none⟩=some (.int .i64 x3)) (go_keep)
    (first
      | (go_at_call 189;refine (eqFrame_same x0 x1 x2 x3 _).mono ?_;rintro e w1 ⟨rfl,hb1⟩;replace hb1:=undrew hb1;have key:∀ g o v,wr.cell? ⟨g,o,none⟩=some v→w1.cell? ⟨g,o,none⟩=some v:=(fun g o v hv=>(hb1.cell (World.block_lt_of_cell? wr _ hv)).trans hv);have r0:=key _ _ _ q0;have r1:=key _ _ _ q1;have r2:=key _ _ _ q2;have r3:=key _ _ _ q3;have s0:=key _ _ _ p0;have s1:=key _ _ _ p1;have s2:=key _ _ _ p2;have s3:=key _ _ _ p3;clear key))
   have HB1:=hide (HB.out.trans (hb1.mono HB.out.size))
   clear q0 q1 q2 q3 p0 p1 p2 p3 hb1 r0 r1 r2 r3 s0 s1 s2 s3
   go_wp2
   go_roundw
   case rel=>exact ⟨k+1,by omega,by go_num,HB1.out⟩
   case measure=>simp [intOf];omega
  ·have HB:=hide hB
   clear hB
   go_wp2
   go_ret
   exact ⟨rfl,HB.out⟩
end Go.Proofs.YtngdgogjlpjjpaeGreat
namespace Go.Proofs.YtngdgogjlpjjpaeGreat
open Go.RowKit Classical
set_option linter.unusedVariables false
set_option linter.unusedSimpArgs false
theorem act_ext {a b:Act}(hd:a.defers=b.defers)(hs:a.tmps.size=b.tmps.size)(h:∀ t,t<a.tmps.size→a.tmps.getD t undef=b.tmps.getD t undef):a=b:=by
 obtain ⟨ta,da⟩:=a
 obtain ⟨tb,db⟩:=b
 dsimp only at hd hs h
 subst hd
 congr 1
 refine Array.ext hs fun i h1 h2=>?_
 have:=h i h1
 simpa [h1,h2] using this
theorem putG {a:Act}{t t':Nat}{v:Value}(h:t≠t'):(a.put (some t) v).tmps.getD t' undef=a.tmps.getD t' undef:=by
 show (a.tmps.setIfInBounds t v).getD t' undef=_
 simp [Array.getElem?_setIfInBounds_ne h]
theorem putE {a:Act}{t:Nat}{v:Value}(h:t<a.tmps.size):(a.put (some t) v).tmps.getD t undef=v:=by
 show (a.tmps.setIfInBounds t v).getD t undef=_
 simp [h]
theorem put_sz {a:Act}{t:Option Nat}{v:Value}:(a.put t v).tmps.size=a.tmps.size:=by
 cases t with
 | none=>rfl
 | some t=>show (a.tmps.setIfInBounds t v).size=_;simp
theorem put_df {a:Act}{t:Option Nat}{v:Value}:(a.put t v).defers=a.defers:=by cases t <;> rfl
def putS (A:Act)(y:Nat→Value):List Nat→Act
 | []=>A
 | s :: l=>(putS A y l).put (some s) (y s)
theorem putS_size (A:Act)(y:Nat→Value):∀ l,(putS A y l).tmps.size=A.tmps.size
 | []=>rfl
 | s :: l=>put_sz.trans (putS_size A y l)
theorem putS_defers (A:Act)(y:Nat→Value):∀ l,(putS A y l).defers=A.defers
 | []=>rfl
 | s :: l=>put_df.trans (putS_defers A y l)
theorem putS_other {A:Act}{y:Nat→Value}{t:Nat}:∀ {l:List Nat},t ∉ l→(putS A y l).tmps.getD t undef=A.tmps.getD t undef
 | [],_=>rfl
 | s :: l,h=>(putG (fun e=>h (by rw [e];exact List.mem_cons_self ..))).trans (putS_other (fun q=>h (List.mem_cons_of_mem _ q)))
theorem putS_get {A:Act}{y:Nat→Value}{t:Nat}(ht:t<A.tmps.size):∀ {l:List Nat},t ∈ l→(putS A y l).tmps.getD t undef=y t
 | [],h=>by cases h
 | s :: l,h=>by
   by_cases e:s=t
   ·subst e
    exact putE (by rw [putS_size];exact ht)
   ·exact (putG e).trans (putS_get ht ((List.mem_cons.1 h).resolve_left (fun q=>e q.symm)))
theorem putS_eq {a A:Act}{l:List Nat}(hd:a.defers=A.defers)(hs:a.tmps.size=A.tmps.size)(ho:∀ t,t ∉ l→a.tmps.getD t undef=A.tmps.getD t undef):a=putS A (fun t=>a.tmps.getD t undef) l:=by
 refine act_ext (by rw [putS_defers];exact hd) (by rw [putS_size];exact hs) fun t ht=>?_
 by_cases e:t ∈ l
 ·rw [putS_get (by omega) e]
 ·rw [putS_other e]
  exact ho t e
theorem lstS {listed:Array Bool}{i j:Nat}(h:(listed.setIfInBounds i true).getD j false=true):j=i∨listed.getD j false=true:=by
 by_cases e:i=j
 ·exact .inl e.symm
 ·rw [getD_set_ne false e] at h
  exact .inr h
theorem lstT {listed:Array Bool}{i:Nat}(hs:i<listed.size)(b:Bool):listed.getD i b=listed.getD i false:=by simp [hs]
theorem all_lst {md:Region.Mode}{ops:Array Oper}{listed:Array Bool}(hr:Region.ready md ops listed=[])(h:((List.range ops.size).all fun i=>match ops[i]? with | some o=>o.after.all (fun e=>!Region.binds md e || decide (e.on<i)) | none=>true)=true)(hs:listed.size=ops.size):∀ i,i<ops.size→listed.getD i false=true:=by
 intro i
 induction i using Nat.strongRecOn with
 | _ i ih=>
   intro hi
   have h1:=List.all_eq_true.1 h i (List.mem_range.2 hi)
   rw [Array.getElem?_eq_getElem hi] at h1
   dsimp only at h1
   refine (lstT (by omega) true).symm.trans (rdy_last hr i ops[i] (Array.getElem?_eq_getElem hi) fun e he hb=>?_)
   have h2:=Array.all_eq_true'.1 h1 e he
   rw [hb] at h2
   simp at h2
   exact ih e.on h2 (by omega)
end Go.Proofs.YtngdgogjlpjjpaeGreat
namespace Go.Proofs.YtngdgogjlpjjpaeGreat
open Go.RowKit Classical
set_option linter.unusedVariables false
set_option linter.unusedSimpArgs false
set_option maxRecDepth 100000
theorem grown_refl (W:World)(row:Option Nat):W.grownBy W row:=⟨rfl,rfl,rfl,Nat.le_refl _,fun _ _ _=>rfl⟩
theorem wp_copy {α:Type}{f:α→List Value}{o:Oper}{ac:Act}{K:Act→World→Prop}{Q:Exit→Act→World→Prop}{W:World}(s x:Operand)(t:TypeId)
 (ho:o.op=.call { callee:=.builtin .append,args:=#[s,x],argTypes:=#[t,t] })
 (base:Nat) (e:TypeId) (i:TypeInfo) (z:Value) (size bytes:Nat) (ht:Tryz.prog.underlying t=some (.slice e)) (hi:Tryz.prog.info? e=some i) (hz:i.zero=some z)
 (hsize:i.size=size) (hby:i.bytes=bytes) (hzs:z.cells.size=size) (hsz:0<size)
 (v:Value) (xs:List α) (hs:ac.eval s=v) (hown:OG e size f W base v xs)
 (b':Nat) (sv:Value) (ys:List α) (hx:ac.eval x=sv) (src:OG e size f W b' sv ys) (hf:∀ y,(f y).length=size) (h1:∀ y,∀ u ∈ f y,u.oneCell'=true)
 (h63:xs.length+ys.length≤maxLen) (hbytes:(xs.length+ys.length) * bytes≤140737488355328) (hbase:base≤W.heap.size)
 (h:∀ v' w',OG e size f w' base v' (xs++ys)→W.grownBy w' v.ownBlock→K (ac.put o.dst v') w'):o.wp Tryz.prog ac W K Q:=by
 have key:∀ {v':Value} {w':World},w'.ownsRow base e size v' (xs.length+ys.length) (xs.flatMap f++ys.flatMap f)→OG e size f w' base v' (xs++ys):=fun hq=>by
  unfold OG
  rw [List.length_append,List.flatMap_append]
  exact hq
 obtain ⟨a,c,rfl⟩:=og_shape src
 obtain ⟨l1,l2,l3,l4⟩:=og_parts src
 cases a with
 | none=>
   have hn:ys.length=0:=by
    rcases Nat.eq_zero_or_pos ys.length with q | q
    ·exact q
    ·obtain ⟨g,hg,_⟩:=l4 (by omega)
     simp at hg
   have hc:c=0:=by
    obtain ⟨_,h0 | ⟨g,cap,cur,hv,_⟩⟩:=src
    ·simp at h0;exact h0.1.2
    ·simp at hv
   obtain rfl:ys=[]:=List.eq_nil_of_length_eq_zero hn
   subst hc
   have hrun:=run_append_owned_none (P:=Tryz.prog) (w:=W) base t o.type e i size ht hi v xs.length (xs.flatMap f) hown
   unfold Oper.wp
   simp [execOp,ho,resolve,invoke,builtin,hs,hx,hrun,Result.andThen]
   exact h v W (by rw [List.append_nil];exact hown) (grown_refl _ _)
 | some ad=>
   have had:∃ g,ad=⟨g,0,none⟩∧∀ j u,(ys.flatMap f)[j]?=some u→W.cell? (ad.add j)=some u:=by
    obtain ⟨_,h0 | ⟨g,cap,cur,hv,hg,hh,q1,q2,q3,q4⟩⟩:=id src
    ·simp at h0
    ·simp at hv
     obtain ⟨rfl,_⟩:=hv
     exact ⟨g,rfl,fun j u hu=>World.ownsRow.cells src (g:=g) rfl j u hu⟩
   obtain ⟨g,rfl,hcl⟩:=had
   have hl:(ys.flatMap f).length=ys.length * size:=by
    clear l1 l2 l3 l4 hcl h key src hx h63 hbytes
    induction ys with
    | nil=>simp
    | cons y ys ih=>rw [List.flatMap_cons,List.length_append,hf,ih,List.length_cons,Nat.add_mul];omega
   refine wp_append_own W s x t ho base e i z size bytes ht hi hz hsize hby hzs hsz v xs.length (xs.flatMap f) hs hown ⟨g,0,none⟩ ys.length c (ys.flatMap f) hx hl hcl (fun u hu=>?_) h63 hbytes hbase fun v' w' q1 q2 _=>h v' w' (key q1) q2
   rw [List.mem_flatMap] at hu
   obtain ⟨y,_,hu⟩:=hu
   exact h1 y u hu
theorem list_copy {α:Type}{f:α→List Value}{ops:Array Oper}{rest:List Oper}{o:Oper}{ac:Act}{Q:Exit→Act→World→Prop}{W:World}(hgd:o.guard=none)(s x:Operand)(t:TypeId)
 (ho:o.op=.call { callee:=.builtin .append,args:=#[s,x],argTypes:=#[t,t] })
 (base:Nat) (e:TypeId) (i:TypeInfo) (z:Value) (size bytes:Nat) (ht:Tryz.prog.underlying t=some (.slice e)) (hi:Tryz.prog.info? e=some i) (hz:i.zero=some z)
 (hsize:i.size=size) (hby:i.bytes=bytes) (hzs:z.cells.size=size) (hsz:0<size)
 (v:Value) (xs:List α) (hs:ac.eval s=v) (hown:OG e size f W base v xs)
 (b':Nat) (sv:Value) (ys:List α) (hx:ac.eval x=sv) (src:OG e size f W b' sv ys) (hf:∀ y,(f y).length=size) (h1:∀ y,∀ u ∈ f y,u.oneCell'=true)
 (h63:xs.length+ys.length≤maxLen) (hbytes:(xs.length+ys.length) * bytes≤140737488355328) (hbase:base≤W.heap.size)
 (h:∀ v' w',OG e size f w' base v' (xs++ys)→W.grownBy w' v.ownBlock→wpList Tryz.prog ops Q rest (ac.put o.dst v') w'):wpList Tryz.prog ops Q (o :: rest) ac W:=
 wpList_plain hgd fun _ hK=>wp_copy s x t ho base e i z size bytes ht hi hz hsize hby hzs hsz v xs hs hown b' sv ys hx src hf h1 h63 hbytes hbase fun v' w' q1 q2=>hK _ _ (h v' w' q1 q2)
theorem step_copy {α:Type}{f:α→List Value}{ops:Array Oper}{o:Oper}{ac:Act}{K:Act→World→Prop}{Q:Exit→Act→World→Prop}{E:Prop}{W:World}(hgd:o.guard=none)(s x:Operand)(t:TypeId)
 (ho:o.op=.call { callee:=.builtin .append,args:=#[s,x],argTypes:=#[t,t] })
 (base:Nat) (e:TypeId) (i:TypeInfo) (z:Value) (size bytes:Nat) (ht:Tryz.prog.underlying t=some (.slice e)) (hi:Tryz.prog.info? e=some i) (hz:i.zero=some z)
 (hsize:i.size=size) (hby:i.bytes=bytes) (hzs:z.cells.size=size) (hsz:0<size)
 (v:Value) (xs:List α) (hs:ac.eval s=v) (hown:OG e size f W base v xs)
 (b':Nat) (sv:Value) (ys:List α) (hx:ac.eval x=sv) (src:OG e size f W b' sv ys) (hf:∀ y,(f y).length=size) (h1:∀ y,∀ u ∈ f y,u.oneCell'=true)
 (h63:xs.length+ys.length≤maxLen) (hbytes:(xs.length+ys.length) * bytes≤140737488355328) (hbase:base≤W.heap.size)
 (h:∀ v' w',OG e size f w' base v' (xs++ys)→W.grownBy w' v.ownBlock→K (ac.put o.dst v') w'):
 if Region.wanted o (yielded ops ac.tmps)=true then Oper.wp Tryz.prog o ac W K Q else E:=by
 have hw:Region.wanted o (yielded ops ac.tmps)=true:=by simp [Region.wanted,hgd]
 rw [if_pos hw]
 exact wp_copy s x t ho base e i z size bytes ht hi hz hsize hby hzs hsz v xs hs hown b' sv ys hx src hf h1 h63 hbytes hbase h
structure Cpm (W0 X:World)(gm:Nat)(cs:Array Value):Prop where
 b:Below W0.heap.size W0 X
 k:Blk X gm cs 104
 g:W0.heap.size≤gm
theorem Cpm.below {W0 X X':World}{gm:Nat}{cs:Array Value}(h:Cpm W0 X gm cs)(hb:Below X.heap.size X X'):Cpm W0 X' gm cs:=⟨h.b.trans (hb.mono h.b.size),h.k.below hb,h.g⟩
theorem Cpm.grown {W0 X A X':World}{gm g:Nat}{cs:Array Value}(h:Cpm W0 X gm cs)(ha:Below X.heap.size X A)(hg:X.heap.size≤g)(G:A.grownBy X' (some g)):Cpm W0 X' gm cs∧Turn (fun j=>j=gm∨X.heap.size≤j) X X':=by
 have T:Turn (fun j=>j=gm∨X.heap.size≤j) X X':=(turn_below ha).trans ⟨G.os,G.tape,G.output,G.size,fun k hk hs=>G.block k hk (fun e=>hs (.inr (by cases e;exact hg)))⟩
 have hlt:=h.k.lt
 exact ⟨⟨below_turn (h.b.trans (ha.mono h.b.size)) (S:=fun k=>k=g) ⟨G.os,G.tape,G.output,G.size,fun k hk hs=>G.block k hk (fun e=>hs (by cases e;rfl))⟩ (fun k hk=>by have:=h.b.size;omega) (Nat.le_trans h.b.size ha.size),grown_blk G (h.k.below ha) (fun e=>by cases e;omega),h.g⟩,T⟩
theorem Cpm.set {W0 X:World}{gm:Nat}{cs:Array Value}(h:Cpm W0 X gm cs)(j:Nat)(u:Value):Cpm W0 (X.setCell ⟨gm,j,none⟩ u) gm (cs.setIfInBounds j u)∧Turn (fun k=>k=gm) X (X.setCell ⟨gm,j,none⟩ u):=⟨⟨below_turn h.b (turn_set X gm j u) (fun k hk=>by have:=h.g;omega) h.b.size,h.k.set j u,h.g⟩,turn_set X gm j u⟩
theorem row_kept {X X':World}{gm b n sz:Nat}{cs:Array Value}{t:TypeId}{v:Value}{xs:List Value}(T:Turn (fun j=>j=gm∨X.heap.size≤j) X X')(kg:Blk X gm cs 104)(h:X.ownsRow b t sz v n xs)(hne:t≠104):X'.ownsRow b t sz v n xs:=by
 have hk:∀ k,v.ownBlock=some k→¬ (k=gm∨X.heap.size≤k):=fun k hk s=>by
  rcases s with rfl | s
  ·obtain ⟨c,kb⟩:=own_kind h hk
   exact hne (blk_kind kb kg)
  ·have:=(World.ownsRow.lt h k hk).2;omega
 obtain ⟨hl,h0 | ⟨g,cap,cur,hv,hg,hh,h1,h2,h3,h4⟩⟩:=h
 ·exact ⟨hl,.inl h0⟩
 ·exact ⟨hl,.inr ⟨g,cap,cur,hv,hg,turn_blk (w:=X) T hh (hk g (by rw [hv];rfl)),h1,h2,h3,h4⟩⟩
theorem Cpm.row {α:Type}{f:α→List Value}{W0 X w':World}{gm sz:Nat}{cs:Array Value}{t:TypeId}{v':Value}{ys:List α}(h:Cpm W0 X gm cs)(j:Nat)(O:OG t sz f w' X.heap.size v' ys)(hne:t≠104)(G:(X.alloc (.cells #[] t)).grownBy w' (some X.heap.size)):
 Blk w' gm cs 104∧Cpm W0 (w'.setCell ⟨gm,j,none⟩ v') gm (cs.setIfInBounds j v')∧OG t sz f (w'.setCell ⟨gm,j,none⟩ v') X.heap.size v' ys∧Turn (fun j=>j=gm∨X.heap.size≤j) X (w'.setCell ⟨gm,j,none⟩ v'):=by
 obtain ⟨c1,t1⟩:=h.grown ((Below.refl _ _).alloc (Nat.le_refl _) _) (Nat.le_refl _) G
 obtain ⟨c2,t2⟩:=c1.set j v'
 refine ⟨c1.k,c2,O.kept t2 (fun k hk e=>?_),t1.trans (t2.mono (fun k hk=>.inl hk))⟩
 subst e
 obtain ⟨c,kb⟩:=own_kind O hk
 exact hne (blk_kind kb c1.k)
end Go.Proofs.YtngdgogjlpjjpaeGreat
