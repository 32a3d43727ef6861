import Derived.Test.YtngdgogjlpjjpaeGreatP02
import Derived.Test.YtngdgogjlpjjpaeGreatP15
import Derived.Test.YtngdgogjlpjjpaeGreatP18
import Derived.Test.YtngdgogjlpjjpaeGreatP22
set_option maxHeartbeats 8000000
namespace Go.Proofs.YtngdgogjlpjjpaeGreat
open Go.RowKit Classical
set_option linter.unusedVariables false
set_option linter.unusedSimpArgs false
set_option maxRecDepth 100000
def oB (m:Nat):Option (List Int)→List Int × Option (List Int)
 | none=>([],none)
 | some zs=>match pB m zs with
   | none=>([],none)
   | some x=>(x.1,some x.2)
theorem oB_some {m:Nat}{zs r x:List Int}(h:pB m zs=some (x,r)):oB m (some zs)=(x,some r):=by show (match pB m zs with | none=>_ | some x=>_)=_;rw [h]
theorem oB_none {m:Nat}{zs:List Int}(h:pB m zs=none):oB m (some zs)=([],none):=by show (match pB m zs with | none=>_ | some x=>_)=_;rw [h]
theorem ob_new (w:World)(base:Nat)(hb:base≤w.heap.size):OB (w.alloc (.cells #[] 5)) base (.slice (some ⟨w.heap.size,0,none⟩) 0 0) []:=
 ⟨⟨by simp,.inr ⟨w.heap.size,0,#[],rfl,hb,heap_alloc_new w _,Nat.le_refl _,by unfold maxLen;omega,rfl,rfl⟩⟩,by simp⟩
def BySPost (w:World)(g b n cap:Nat)(zs:List Int)(p:List Int × Option (List Int))(e:Ending)(w':World):Prop:=∃ a c,e=.returned (.slice a p.1.length c)∧OB w' w.heap.size (.slice a p.1.length c) p.1∧RdS w' g b n cap zs p.2∧Turn (fun j=>j=g) w w'
theorem bytes_rd (g b n cap:Nat)(zs:List Int)(st:Option (List Int))(s:Nat)(w:World)(h:RdS w g b n cap zs st)(hs:s≤65535):
 Calls Tryz.prog 153 #[.pointer (some ⟨g,0,none⟩),.int .i64 s] w (BySPost w g b n cap zs (oB s st)):=by
 obtain ⟨k,hk,hb,hr⟩:=h.pos
 have hl:=h.bs.1
 have hsm:=h.small
 cases st with
 | none=>
   obtain ⟨q0,q1,q2,_⟩:=hb.three
   simp at q2
   have HH:=hide h
   clear h hb hr
   go_enter Tryz.func153,Tryz.ntmps153
   go_wp2_with fail
   go_quiet (fail)
   have R1:=HH.out.drewN nq
   have T1:=turn_dN (Turn.refl (fun j=>j=g) w) nq
   have hz:w.heap.size≤(w.drewN nq).heap.size:=Nat.le_refl _
   generalize w.drewN nq=W1 at *
   obtain ⟨k1,_,hb1,_⟩:=R1.pos
   have u2:=hb1.cell 2
   have f2:=hb1.frozen 2
   simp at u2
   have HF:=hide (And.intro (RdS.short R1) (T1.trans (turn_set W1 g 2 (.bool true))))
   have hs2:w.heap.size≤(W1.setCell ⟨g,2,none⟩ (.bool true)).heap.size:=by rw [size_setCell];exact hz
   have HO:=hide (ob_new (W1.setCell ⟨g,2,none⟩ (.bool true)) w.heap.size hs2)
   clear R1 T1 hb1 q0 q1 q2 hs2
   go_wp2
   go_ret
   refine ⟨_,_,rfl,?_,HF.out.1.below ((Below.refl _ _).alloc (Nat.le_refl _) _),HF.out.2.trans (turn_alloc _ _)⟩
   have:=HO.out
   simp only [size_setCell] at this ⊢
   exact this
 | some r=>
   have hr':=hr r rfl
   have hrl:r.length=n - k:=by rw [hr',List.length_drop,hl]
   obtain ⟨q0,q1,q2,_⟩:=hb.three
   simp at q2
   by_cases c:s≤r.length
   ·rw [oB_some (pB_some c)]
    obtain ⟨m,hm⟩:∃ m,m=k+s:=⟨_,rfl⟩
    have hwr:IntKind.i64.wrap ((k:Int)+(s:Int))=(m:Int):=by rw [hm];push_cast;exact wraps62 _ (by omega) (by omega)
    have hcc:¬ ((n:Int)<(m:Int)):=by omega
    have hks:k+s≤n:=by omega
    have hcap:=h.bs.2.2.2.2
    have HH:=hide (And.intro h (And.intro hb hr'))
    have HLO:=hide (show r.take s=(zs.drop k).take s∧(r.take s).length=s by refine ⟨by rw [hr'],?_⟩;rw [List.length_take];omega)
    have hw1:IntKind.i64.wrap ((m:Int) - (s:Int))=(k:Int):=by rw [hm];push_cast;rw [show (k:Int)+s - s=k by omega];exact wraps62 _ (by omega) (by omega)
    have hi1:(k:Int)≤(m:Int):=by omega
    have hi2:(m:Int)≤(cap:Int):=by omega
    have hz4:m - k=s:=by omega
    have HMK:=hide hm
    by_cases hz1:cap=k
    ·have hs0:s=0:=by omega
     subst hs0
     obtain rfl:m=k:=by omega
     subst hz1
     have hw2:IntKind.i64.wrap (cap:Int)=(cap:Int):=wraps62 _ (by omega) (by omega)
     have hi0:(0:Int)≤(cap:Int):=by omega
     clear hwr hw1 hi1 hi2 hz4
     have HLOW:=hide (fun (W:World) (hB:BS W (some ⟨b,0,none⟩) n cap zs)=>l1Bytes_any b 0 0 0 [] W ⟨rfl,by unfold maxLen;omega,by simp,fun h=>absurd rfl h,Nat.le_refl _⟩ (by omega))
     clear h hb hr hr' hrl c hm
     go_enter Tryz.func153,Tryz.ntmps153
     go_wp2_with fail
     go_region_held3 (fun w'=>w'.cell? ⟨g,0,none⟩=some (.slice (some ⟨b,0,none⟩) n cap)∧w'.cell? ⟨g,1,none⟩=some (.int .i64 (cap:Int))∧w'.cell? ⟨g,2,none⟩=some (.bool false)) (go_keep) (first | fail)
     obtain ⟨h,hb,hr'⟩:=HH.out
     have hb0:Blk w.drew g #[.slice (some ⟨b,0,none⟩) n cap,.int .i64 (cap:Int),.bool false] 202:=hb
     have R1:=h.drew
     have T1:=turn_dr (Turn.refl (fun j=>j=g) w)
     have hz:w.heap.size≤w.drew.heap.size:=Nat.le_refl _
     generalize w.drew=W1 at *
     clear q0 q1 q2
     obtain ⟨q0,q1,q2,_⟩:=hb0.three
     have f1:=hb0.frozen 1
     have R2:=R1.go hb0 hr' hks (.int .i64 (cap:Int)) (by simp)
     have k2:=hb0.set 1 (.int .i64 (cap:Int))
     have T2:=T1.trans (turn_set W1 g 1 (.int .i64 (cap:Int)))
     simp at k2
     obtain ⟨u0,u1,u2,_⟩:=k2.three
     have hB:=R2.bs
     have HF:=hide (And.intro R2 (And.intro T2 k2))
     clear h hb hr' hb0 R1 T1 k2 R2 T2
     go_wp2_with fail
     go_region_held3 (fun w'=>w'.cell? ⟨g,0,none⟩=some (.slice (some ⟨b,0,none⟩) n cap)∧w'.cell? ⟨g,1,none⟩=some (.int .i64 (cap:Int))) (go_keep) (first
      | (go_at_call 213;refine (HLOW.out _ (by first | exact hB | exact hB.below (Below.refl _ _).drew)).mono ?_;rintro e w9 ⟨a9,c9,rfl,o9,hb9⟩;replace hb9:=undrew hb9;obtain ⟨u0,u1,u2,_⟩:=(HF.out.2.2.below hb9).three))
     have HF2:=hide (And.intro (o9.mono (show w.heap.size≤_ by simpa [size_setCell] using hz)) (And.intro (HF.out.1.below hb9) (HF.out.2.1.trans (turn_below hb9))))
     have HL2:=hide HLO.out
     clear HF HLO hB HLOW q0 q1 q2 u0 u1 u2 f1 o9 hb9
     go_wp2
     go_ret
     refine ⟨a9,c9,?_,?_,HF2.out.2.1,HF2.out.2.2⟩
     ·rw [HL2.out.2];rfl
     ·dsimp only;rw [HL2.out.2,show List.take 0 r=[] from rfl];exact HF2.out.1
    ·have HLOW:=hide (fun (W:World) (hB:BS W (some ⟨b,0,none⟩) n cap zs)=>l1Bytes_any b k s (cap - k) ((zs.drop k).take s) W (by have:=(hB.drop k hk).take s (by omega);rw [Nat.zero_add] at this;exact this) (by omega))
     clear h hb hr hr' hrl c hm
     go_enter Tryz.func153,Tryz.ntmps153
     go_wp2_with fail
     go_region_held3 (fun w'=>w'.cell? ⟨g,0,none⟩=some (.slice (some ⟨b,0,none⟩) n cap)∧w'.cell? ⟨g,1,none⟩=some (.int .i64 k)∧w'.cell? ⟨g,2,none⟩=some (.bool false)) (go_keep) (first | fail)
     obtain ⟨h,hb,hr'⟩:=HH.out
     have hb0:Blk w.drew g #[.slice (some ⟨b,0,none⟩) n cap,.int .i64 k,.bool false] 202:=hb
     have R1:=h.drew
     have T1:=turn_dr (Turn.refl (fun j=>j=g) w)
     have hz:w.heap.size≤w.drew.heap.size:=Nat.le_refl _
     generalize w.drew=W1 at *
     clear q0 q1 q2
     obtain ⟨q0,q1,q2,_⟩:=hb0.three
     have f1:=hb0.frozen 1
     have R2:=R1.go hb0 hr' hks (.int .i64 (m:Int)) (by rw [HMK.out])
     have k2:=hb0.set 1 (.int .i64 (m:Int))
     have T2:=T1.trans (turn_set W1 g 1 (.int .i64 (m:Int)))
     simp at k2
     obtain ⟨u0,u1,u2,_⟩:=k2.three
     have hB:=R2.bs
     have HF:=hide (And.intro R2 (And.intro T2 k2))
     clear h hb hr' hb0 R1 T1 k2 R2 T2
     go_wp2_with fail
     go_region_held3 (fun w'=>w'.cell? ⟨g,0,none⟩=some (.slice (some ⟨b,0,none⟩) n cap)∧w'.cell? ⟨g,1,none⟩=some (.int .i64 (m:Int))) (go_keep) (first
      | (go_at_call 213;refine (HLOW.out _ (by first | exact hB | exact hB.below (Below.refl _ _).drew)).mono ?_;rintro e w9 ⟨a9,c9,rfl,o9,hb9⟩;replace hb9:=undrew hb9;obtain ⟨u0,u1,u2,_⟩:=(HF.out.2.2.below hb9).three))
     have HF2:=hide (And.intro (o9.mono (show w.heap.size≤_ by simpa [size_setCell] using hz)) (And.intro (HF.out.1.below hb9) (HF.out.2.1.trans (turn_below hb9))))
     have HL2:=hide HLO.out
     clear HF HLO hB HLOW q0 q1 q2 u0 u1 u2 f1 o9 hb9
     go_wp2
     go_ret
     refine ⟨a9,c9,?_,?_,HF2.out.2.1,HF2.out.2.2⟩
     ·rw [HL2.out.2];rfl
     ·dsimp only;rw [HL2.out.2,HL2.out.1];exact HF2.out.1
   ·rw [oB_none (pB_none c)]
    have hwr:IntKind.i64.wrap ((k:Int)+(s:Int))=(k:Int)+s:=wraps62 _ (by omega) (by omega)
    have hcc:(n:Int)<(k:Int)+(s:Int):=by omega
    have HH:=hide h
    clear h hb hr hr' hrl c
    go_enter Tryz.func153,Tryz.ntmps153
    go_wp2_with fail
    go_region_held3 (fun w'=>w'.cell? ⟨g,0,none⟩=some (.slice (some ⟨b,0,none⟩) n cap)∧w'.cell? ⟨g,1,none⟩=some (.int .i64 k)∧w'.cell? ⟨g,2,none⟩=some (.bool false)) (go_keep) (first | fail)
    have R1:=HH.out.drew
    have T1:=turn_dr (Turn.refl (fun j=>j=g) w)
    have hz:w.heap.size≤w.drew.heap.size:=Nat.le_refl _
    generalize w.drew=W1 at *
    obtain ⟨k1,_,hb1,_⟩:=R1.pos
    have v2:=hb1.cell 2
    have f2:=hb1.frozen 2
    simp at v2
    have HF:=hide (And.intro (RdS.short R1) (T1.trans (turn_set W1 g 2 (.bool true))))
    have hs2:w.heap.size≤(W1.setCell ⟨g,2,none⟩ (.bool true)).heap.size:=by rw [size_setCell];exact hz
    have HO:=hide (ob_new (W1.setCell ⟨g,2,none⟩ (.bool true)) w.heap.size hs2)
    clear R1 T1 hb1 q0 q1 q2 hs2
    go_wp2
    go_ret
    refine ⟨_,_,rfl,?_,HF.out.1.below ((Below.refl _ _).alloc (Nat.le_refl _) _),HF.out.2.trans (turn_alloc _ _)⟩
    have:=HO.out
    simp only [size_setCell] at this ⊢
    exact this
structure Lf {α:Type}(p:List Int→Option (α × List Int))(st:Option (List Int))(x:α)(st':Option (List Int)):Prop where
 n:st=none→st'=none
 f:∀ zs,st=some zs→p zs=none→st'=none
 s:∀ zs y r,st=some zs→p zs=some (y,r)→x=y∧st'=some r
theorem lf_N (s:Nat)(st:Option (List Int)):Lf (pN s) st (oN s st).1 (oN s st).2:=
 ⟨fun h=>by subst h;rfl,fun zs h hp=>by subst h;rw [oN_none hp],fun zs y r h hp=>by subst h;rw [oN_some hp];exact ⟨rfl,rfl⟩⟩
theorem lf_B (s:Nat)(st:Option (List Int)):Lf (pB s) st (oB s st).1 (oB s st).2:=
 ⟨fun h=>by subst h;rfl,fun zs h hp=>by subst h;rw [oB_none hp],fun zs y r h hp=>by subst h;rw [oB_some hp];exact ⟨rfl,rfl⟩⟩
theorem oN_range {W:World}{g b n cap:Nat}{zs:List Int}{st:Option (List Int)}(h:RdS W g b n cap zs st)(s:Nat)(hs:s≤4):0≤(oN s st).1∧(oN s st).1≤4294967295∧(s≤2→(oN s st).1≤65535)∧(s=1→(oN s st).1≤255):=by
 cases st with
 | none=>exact ⟨by show (0:Int)≤0;omega,by show (0:Int)≤_;omega,fun _=>by show (0:Int)≤_;omega,fun _=>by show (0:Int)≤_;omega⟩
 | some r=>
   cases e:pN s r with
   | none=>rw [oN_none e];exact ⟨by show (0:Int)≤0;omega,by show (0:Int)≤_;omega,fun _=>by show (0:Int)≤_;omega,fun _=>by show (0:Int)≤_;omega⟩
   | some x=>
     obtain ⟨x,r'⟩:=x
     rw [oN_some e]
     have h1:=(gives_pN s hs r x r' h.range e).1
     exact ⟨h1.1,h1.2.1,h1.2.2,fun h2=>by subst h2;exact (gives_pN1 r x r' h.range e).1.2⟩
theorem Lf.text {st s1 s2:Option (List Int)}{x:Int}{y:List Int}(h1:Lf (pN 1) st x s1)(h2:Lf (pB x.toNat) s1 y s2):Lf pT st (strOf y) s2:=by
 refine ⟨fun h=>h2.n (h1.n h),fun zs h hp=>?_,fun zs z r h hp=>?_⟩
 ·unfold pT at hp
  cases e:pN 1 zs with
  | none=>exact h2.n (h1.f zs h e)
  | some v=>
    obtain ⟨v,r1⟩:=v
    obtain ⟨rfl,rfl⟩:=h1.s zs v r1 h e
    rw [e] at hp
    simp at hp
    exact h2.f r1 rfl hp
 ·unfold pT at hp
  cases e:pN 1 zs with
  | none=>rw [e] at hp;simp at hp
  | some v=>
    obtain ⟨v,r1⟩:=v
    obtain ⟨rfl,rfl⟩:=h1.s zs v r1 h e
    rw [e] at hp
    simp at hp
    obtain ⟨u,hu,rfl⟩:=hp
    obtain ⟨rfl,rfl⟩:=h2.s r1 u r rfl hu
    exact ⟨rfl,rfl⟩
theorem oB_len {W:World}{g b n cap:Nat}{zs:List Int}{st:Option (List Int)}(h:RdS W g b n cap zs st)(m:Nat):(oB m st).1.length≤m:=by
 cases st with
 | none=>show 0≤m;omega
 | some r=>
   cases e:pB m r with
   | none=>rw [oB_none e];show 0≤m;omega
   | some x=>
     obtain ⟨x,r'⟩:=x
     rw [oB_some e]
     have:=(gives_pB m r x r' h.range e).1.1
     show x.length≤m
     omega
def RSP {α:Type}(w:World)(g b n cap:Nat)(zs:List Int)(R:α→Value→World→Prop)(p:List Int→Option (α × List Int))(st:Option (List Int))(e:Ending)(w':World):Prop:=
 ∃ x v st',e=.returned v∧R x v w'∧RdS w' g b n cap zs st'∧Turn (fun j=>j=g) w w'∧Lf p st x st'
theorem run_text0 (w:World)(a:Option Addr)(c:Nat):(convert 41 9 (.slice a 0 c)).run Tryz.prog w=.ok (.string (strOf [])) w:=by
 rw [run_convert_bytes_string w 41 9 5 a 0 c Tryz.underlying41 Tryz.underlying5 Tryz.underlying9]
 cases a <;> simp [Conv.bytesToString,strOf] <;> rfl
theorem text_rs (g b n cap:Nat)(zs:List Int)(st:Option (List Int))(w:World)(h:RdS w g b n cap zs st):
 Calls Tryz.prog 150 #[.pointer (some ⟨g,0,none⟩)] w (RSP w g b n cap zs (fun x v w=>v=.string x∧x.size≤255) pT st):=by
 have HN:=hide (num_rd g b n cap zs st 1 w h (Or.inl rfl))
 have hx:=oN_range h 1 (by omega)
 have HL1:=hide (lf_N 1 st)
 generalize oN 1 st=X at *
 obtain ⟨x,s1⟩:=X
 dsimp only at *
 obtain ⟨m,rfl⟩:∃ m:Nat,x=(m:Int):=⟨x.toNat,by omega⟩
 have hm:m≤255:=by have:=hx.2.2.2 rfl;omega
 clear hx h
 go_enter Tryz.func150,Tryz.ntmps150
 go_wp2_with fail
 refine HN.out.mono ?_
 rintro e w1 ⟨rfl,R1,T1⟩
 have HB:=hide (bytes_rd g b n cap zs s1 m w1 R1 (by omega))
 have hlen:=oB_len R1 m
 have HL2:=hide (lf_B m s1)
 generalize oB m s1=Y at *
 obtain ⟨y,s2⟩:=Y
 dsimp only at *
 clear R1 HN
 go_wp2_with fail
 refine HB.out.mono ?_
 rintro e w2 ⟨a,c,rfl,O2,R2,T2⟩
 dsimp only at O2 R2
 have HF:=hide (And.intro R2 (T1.trans (T2.mono (fun j hj=>hj))))
 have hsz:(strOf y).size≤255:=by rw [strOf_size];omega
 have HLT:=hide (HL1.out.text (x:=(m:Int)) (by rw [Int.toNat_natCast];exact HL2.out))
 have HBB:=hide O2.bs
 clear R2 T2 T1 HB HL1 HL2 O2
 have hcv:(convert 41 9 (.slice a y.length c)).run Tryz.prog w2=.ok (.string (strOf y)) w2:=by
  by_cases hy:y.length=0
  ·obtain rfl:y=[]:=List.eq_nil_of_length_eq_zero hy
   exact run_text0 w2 a c
  ·obtain ⟨b',off,rfl,_⟩:=HBB.out.2.2.2.1 hy
   exact run_text w2 b' off c y HBB.out
 go_wp2
 go_ret
 exact ⟨_,_,s2,rfl,⟨rfl,hsz⟩,HF.out.1,HF.out.2,HLT.out⟩
theorem RdS.lts {W:World}{g b n cap:Nat}{zs:List Int}{st:Option (List Int)}(h:RdS W g b n cap zs st):g<W.heap.size∧(n≠0→b<W.heap.size):=by
 refine ⟨by obtain ⟨_,_,hb,_⟩:=h.pos;exact hb.lt,fun hn=>?_⟩
 obtain ⟨_,_,_,h4,_⟩:=h.bs
 obtain ⟨b',off,e,hc⟩:=h4 hn
 simp at e
 have:=World.block_lt_of_cell? W _ (hc 0 (by omega))
 simpa [e.1] using this
theorem RdS.grown {W W':World}{g b n cap base:Nat}{zs:List Int}{st:Option (List Int)}{row:Option Nat}(h:RdS W g b n cap zs st)(hg:W.grownBy W' row)(hr:∀ k,row=some k→base≤k)(h1:g<base)(h2:n≠0→b<base):RdS W' g b n cap zs st:=by
 obtain ⟨k,p1,p3,p4⟩:=h.pos
 have t:Turn (fun j=>row=some j) W W':=⟨hg.os,hg.tape,hg.output,hg.size,fun j hj hs=>hg.block j hj (fun e=>hs e.symm)⟩
 refine ⟨⟨k,p1,turn_blk t p3 (fun e=>by have:=hr g e;omega),p4⟩,?_,h.ne,h.small⟩
 by_cases hn:n=0
 ·subst hn
  obtain ⟨b1,b2,b3,b4,b5⟩:=h.bs
  exact ⟨b1,b2,b3,fun e=>absurd rfl e,b5⟩
 ·exact turn_bs t h.bs (fun j hj b' off e=>by simp at e;have:=hr j hj;have:=h2 hn;omega)
structure Lm {α:Type}(p:List Int→Option (α × List Int))(m k:Nat)(s1:Option (List Int))(xs:List α)(st:Option (List Int)):Prop where
 n:s1=none→st=none
 f:∀ r1,s1=some r1→st=none→∃ j,j≤m∧pM p j r1=none
 s:∀ r1 r,s1=some r1→st=some r→pM p k r1=some (xs,r)
theorem lm_zero {α:Type}(p:List Int→Option (α × List Int))(m:Nat)(s1:Option (List Int)):Lm p m 0 s1 [] s1:=
 ⟨fun h=>h,fun r1 h h'=>(by rw [h] at h';cases h'),fun r1 r h h'=>(by rw [h] at h';cases h';rfl)⟩
theorem Lm.step {α:Type}{p:List Int→Option (α × List Int)}{m k:Nat}{s1:Option (List Int)}{xs:List α}{r:List Int}{x:α}{st':Option (List Int)}(h:Lm p m k s1 xs (some r))(hk:k<m)(l:Lf p (some r) x st'):Lm p m (k+1) s1 (xs++[x]) st':=by
 refine ⟨fun e=>(by have:=h.n e;cases this),fun r1 e e'=>⟨k+1,by omega,?_⟩,fun r1 r2 e e'=>?_⟩
 ·have hs:=pM_succ (h.s r1 r e rfl)
  cases hp:p r with
  | none=>rw [hs,hp];rfl
  | some y=>
    obtain ⟨y,r3⟩:=y
    have:=(l.s r y r3 rfl hp).2
    rw [e'] at this
    cases this
 ·have hs:=pM_succ (h.s r1 r e rfl)
  cases hp:p r with
  | none=>
    have:=l.f r rfl hp
    rw [e'] at this
    cases this
  | some y=>
    obtain ⟨y,r3⟩:=y
    obtain ⟨e1,e2⟩:=l.s r y r3 rfl hp
    rw [e'] at e2
    cases e2
    rw [hs,hp,e1]
    rfl
theorem Lm.done {α:Type}{p:List Int→Option (α × List Int)}{m k:Nat}{s1:Option (List Int)}{xs:List α}{st':Option (List Int)}(h:Lm p m k s1 xs st')(he:k=m∨st'=none)(hkm:k≤m):Lf (pM p m) s1 xs st':=by
 refine ⟨h.n,fun r1 e hp=>?_,fun r1 y r e hp=>?_⟩
 ·cases st' with
  | none=>rfl
  | some r=>
    rcases he with rfl | he
    ·have:=h.s r1 r e rfl
     rw [hp] at this
     cases this
    ·cases he
 ·cases st' with
  | none=>
    obtain ⟨j,hj,hn⟩:=h.f r1 e rfl
    have:=pM_none hn (m - j)
    rw [show j+(m - j)=m by omega,hp] at this
    cases this
  | some r'=>
    rcases he with rfl | he
    ·have:=h.s r1 r' e rfl
     rw [hp] at this
     cases this
     exact ⟨rfl,rfl⟩
    ·cases he
theorem Lf.bindM {α β:Type}{p:List Int→Option (α × List Int)}{st s1 s2:Option (List Int)}{x:α}{y:β}{q:α→List Int→Option (β × List Int)}(h1:Lf p st x s1)(h2:Lf (q x) s1 y s2):Lf (fun zs=>(p zs).bind fun u=>q u.1 u.2) st y s2:=by
 refine ⟨fun h=>h2.n (h1.n h),fun zs h hp=>?_,fun zs z r h hp=>?_⟩
 ·cases e:p zs with
  | none=>exact h2.n (h1.f zs h e)
  | some v=>
    obtain ⟨v,r1⟩:=v
    obtain ⟨rfl,rfl⟩:=h1.s zs v r1 h e
    simp only [e] at hp
    exact h2.f r1 rfl hp
 ·cases e:p zs with
  | none=>simp only [e] at hp;simp at hp
  | some v=>
    obtain ⟨v,r1⟩:=v
    obtain ⟨rfl,rfl⟩:=h1.s zs v r1 h e
    simp only [e] at hp
    exact h2.s r1 z r rfl hp
theorem og_new {α:Type}(t:TypeId)(sz:Nat)(f:α→List Value)(w:World)(base:Nat)(hb:base≤w.heap.size):OG t sz f (w.alloc (.cells #[] t)) base (.slice (some ⟨w.heap.size,0,none⟩) 0 0) []:=
 ⟨by simp,.inr ⟨w.heap.size,0,#[],rfl,hb,heap_alloc_new w _,Nat.le_refl _,by unfold maxLen;omega,by simp,by simp⟩⟩
theorem words_rs (g b n cap:Nat)(zs:List Int)(st:Option (List Int))(w:World)(h:RdS w g b n cap zs st):
 Calls Tryz.prog 151 #[.pointer (some ⟨g,0,none⟩)] w (RSP w g b n cap zs (fun x v w'=>(∃ a c,v=.slice a x.length c)∧OG 3 1 clI w' w.heap.size v x∧(∀ z ∈ x,Wd z)∧x.length≤65535) pL st):=by
 obtain ⟨i0,hi,hz0,hz1,hz2⟩:=info_parts infoI
 obtain ⟨hgl,hbl⟩:=h.lts
 have HBL:=hide hbl
 have al:Below w.heap.size w (w.alloc (.cells #[] 3)):=(Below.refl _ _).alloc (Nat.le_refl _) _
 have h0:=h.below al
 have O0:=og_new 3 1 clI w w.heap.size (Nat.le_refl _)
 have HN:=hide (num_rd g b n cap zs st 2 _ h0 (Or.inr (Or.inl rfl)))
 have hx:=oN_range h0 2 (by omega)
 have HL1:=hide (lf_N 2 st)
 generalize oN 2 st=X at *
 obtain ⟨x,s1⟩:=X
 dsimp only at *
 obtain ⟨m,rfl⟩:∃ m:Nat,x=(m:Int):=⟨x.toNat,by omega⟩
 have hm:m≤65535:=by have:=hx.2.2.1 (by omega);omega
 clear hx h h0 hbl
 go_enter Tryz.func151,Tryz.ntmps151
 go_wp2_with fail
 refine HN.out.mono ?_
 rintro e w1 ⟨rfl,R1,T1⟩
 have O1:=O0.turn T1 (fun k hk=>by omega)
 have T1':Turn (fun j=>j=g) w w1:=(turn_below al).trans T1
 clear O0 T1 al HN
 go_wp2_with fail
 go_loopw [3,4] (fun x i wr=>∃ (k:Nat) (xs:List Int) (s':Option (List Int)),k≤m∧i=.int .i64 ((m - k:Nat):Int)∧OG 3 1 clI wr w.heap.size x xs∧xs.length=k∧(∀ z ∈ xs,Wd z)∧RdS wr g b n cap zs s'∧Turn (fun j=>j=g) w wr∧Lm (pN 4) m k s1 xs s') (fun _ i _=>(intOf i).toNat)
 case atStart=>exact ⟨0,[],s1,Nat.zero_le _,rfl,O1,rfl,by simp,R1,T1',lm_zero _ _ _⟩
 case round=>
  obtain ⟨k,xs,s',hk,rfl,O,hxl,hwd,R,T,L⟩:=hrel
  clear O1 R1 T1'
  obtain ⟨a,c,rfl⟩:=og_shape O
  obtain ⟨kk,_,hb,_⟩:=R.pos
  have q2:=hb.cell 2
  simp at q2
  by_cases hlt:k<m
  ·have hlt':(0:Int)<((m - k:Nat):Int):=by omega
   cases s' with
   | none=>
     have HX:=hide (And.intro O (And.intro hwd (And.intro R (And.intro T ((HL1.out.bindM (q:=fun x r=>pM (pN 4) x.toNat r) (x:=(m:Int)) (L.done (.inr rfl) hk)))))))
     have hl2:xs.length≤65535:=by omega
     have HL2:=hide hl2
     simp at q2
     rw [hxl]
     have HXL:=hide hxl
     clear O R T L hb hxl hl2
     go_wp2
     go_ret
     have hl2:=HL2.out
     refine ⟨xs,_,none,rfl,⟨⟨a,c,by rw [HXL.out];rfl⟩,?_,HX.out.2.1,hl2⟩,HX.out.2.2.1,HX.out.2.2.2.1,HX.out.2.2.2.2⟩
     have:=HX.out.1
     rw [HXL.out] at this
     exact this
   | some r=>
     simp at q2
     have HN:=hide (num_rd g b n cap zs (some r) 4 wr R (Or.inr (Or.inr rfl)))
     have hx:=oN_range R 4 (by omega)
     have HL2:=hide (L.step hlt (lf_N 4 (some r)))
     generalize oN 4 (some r)=X at *
     obtain ⟨x,s2⟩:=X
     dsimp only at *
     have hO:=O
     rw [hxl] at hO ⊢
     have HXL:=hide hxl
     clear hxl L hb O R
     go_wp2_with fail
     refine HN.out.mono ?_
     rintro e w1 ⟨rfl,R1,T1⟩
     have O1:=hO.turn T1 (fun j hj=>by omega)
     have T2:=T.trans (T1.mono (fun j hj=>hj))
     have HO1:=hide (show (w1.alloc (.cells #[.int .i64 x] 3)).ownsRow w.heap.size 3 1 (.slice a k c) k (xs.flatMap clI) by have:=O1.below ((Below.refl _ _).alloc (Nat.le_refl _) (.cells #[.int .i64 x] 3));unfold OG at this;rw [HXL.out] at this;exact this)
     have HR1:=hide (And.intro R1 (And.intro T2 hO))
     have hsz:=T2.size
     clear R1 T1 T2 T O1 hO HN
     go_wp2_with (at_builtin;refine wpList_append_own _ rfl _ _ 24 rfl w.heap.size 3 i0 (.int .i64 0) 1 8 Tryz.underlying24 hi hz0 hz1 hz2 rfl (by decide) (.slice a k c) k (xs.flatMap clI) rfl HO1.out ⟨w1.heap.size,0,none⟩ 1 1 (clI x) rfl rfl (cells_new w1 _ _ (clI x) rfl) (by intro u hu;simp [clI] at hu;subst hu;rfl) (by unfold maxLen;omega) (by omega) (by simp;omega) ?_;intro v' w3 hown3 hgr3 _)
     obtain ⟨R1,T2,hO⟩:=HR1.out
     have T3:Turn (fun j=>j=g) w (w1.alloc (.cells #[.int .i64 x] 3)):=T2.trans (turn_alloc _ _)
     have hrow:∀ j,(Value.slice a k c).ownBlock=some j→w.heap.size≤j:=fun j hj=>(hO.lt j hj).1
     have T4:=turn_grown T3 hgr3 hrow
     have R4:=(R1.below ((Below.refl _ _).alloc (Nat.le_refl _) (.cells #[.int .i64 x] 3))).grown hgr3 hrow hgl HBL.out
     have O4:OG 3 1 clI w3 w.heap.size v' (xs++[x]):=by
      unfold OG
      rw [List.length_append,HXL.out,List.flatMap_append,List.flatMap_singleton]
      exact hown3
     have hwd2:∀ z ∈ xs++[x],Wd z:=fun z hz=>by
      rcases List.mem_append.1 hz with h' | h'
      ·exact hwd z h'
      ·simp at h';rw [h'];exact ⟨hx.1,hx.2.1⟩
     have hl4:(xs++[x]).length=k+1:=by rw [List.length_append,HXL.out];rfl
     have HX:=hide (And.intro O4 (And.intro R4 (And.intro T4 (And.intro hwd2 hl4))))
     clear O4 R4 T4 T3 R1 T2 hO hown3 hgr3 hrow HR1 HO1 hwd2 hl4
     have hdec:((m - k:Nat):Int) - 1=((m - (k+1):Nat):Int):=by omega
     have HDEC:=hide hdec
     clear hdec
     go_wp2
     go_roundw
     case rel=>exact ⟨k+1,xs++[x],s2,by omega,by rw [← HDEC.out],HX.out.1,HX.out.2.2.2.2,HX.out.2.2.2.1,HX.out.2.1,HX.out.2.2.1,HL2.out⟩
     case measure=>simp [intOf];omega
  ·obtain rfl:k=m:=by omega
   have hn0:((k - k:Nat):Int)=0:=by omega
   rw [hn0]
   have HX:=hide (And.intro O (And.intro hwd (And.intro R (And.intro T ((HL1.out.bindM (q:=fun x r=>pM (pN 4) x.toNat r) (x:=(k:Int)) (L.done (.inl rfl) hk)))))))
   have hl2:xs.length≤65535:=by omega
   have HL2:=hide hl2
   rw [hxl]
   have HXL:=hide hxl
   clear O R T L hb q2 hxl hl2
   go_wp2
   go_ret
   have hl2:=HL2.out
   refine ⟨xs,_,s',rfl,⟨⟨a,c,by rw [HXL.out];rfl⟩,?_,HX.out.2.1,hl2⟩,HX.out.2.2.1,HX.out.2.2.2.1,HX.out.2.2.2.2⟩
   have:=HX.out.1
   rw [HXL.out] at this
   exact this
structure Ss (w W:World)(b n cap:Nat)(zs:List Int)(st:Option (List Int))(cs:Array Value):Prop where
 rd:RdS W (w.heap.size+2) b n cap zs st
 be:Below w.heap.size w W
 k0:Blk W w.heap.size z8 104
 k1:Blk W (w.heap.size+1) z8 104
 k2:Blk W (w.heap.size+3) cs 104
 lo:b<w.heap.size
def Sg (w:World)(j:Nat):Prop:=j=w.heap.size+2∨j=w.heap.size+3
theorem Ss.call {w W W':World}{b n cap:Nat}{zs:List Int}{st st':Option (List Int)}{cs:Array Value}(h:Ss w W b n cap zs st cs)(T:Turn (fun j=>j=w.heap.size+2) W W')(R:RdS W' (w.heap.size+2) b n cap zs st'):Ss w W' b n cap zs st' cs:=
 ⟨R,below_turn h.be T (fun k hk=>by omega) h.be.size,turn_blk T h.k0 (by omega),turn_blk T h.k1 (by omega),turn_blk T h.k2 (by omega),h.lo⟩
theorem Ss.set {w W:World}{b n cap:Nat}{zs:List Int}{st:Option (List Int)}{cs:Array Value}(h:Ss w W b n cap zs st cs)(i:Nat)(v:Value):Ss w (W.setCell ⟨w.heap.size+3,i,none⟩ v) b n cap zs st (cs.setIfInBounds i v):=
 ⟨h.rd.turn (turn_set W (w.heap.size+3) i v) (by omega) (by have:=h.lo;omega),below_turn h.be (turn_set W (w.heap.size+3) i v) (fun k hk=>by omega) h.be.size,h.k0.other _ _ (by show w.heap.size≠w.heap.size+3;omega),h.k1.other _ _ (by show w.heap.size+1≠w.heap.size+3;omega),h.k2.set i v,h.lo⟩
theorem Ss.below {w W W':World}{b n cap:Nat}{zs:List Int}{st:Option (List Int)}{cs:Array Value}(h:Ss w W b n cap zs st cs)(hb:Below W.heap.size W W'):Ss w W' b n cap zs st cs:=
 ⟨h.rd.below hb,h.be.trans (hb.mono h.be.size),h.k0.below hb,h.k1.below hb,h.k2.below hb,h.lo⟩
theorem Ss.sz {w W:World}{b n cap:Nat}{zs:List Int}{st:Option (List Int)}{cs:Array Value}(h:Ss w W b n cap zs st cs):w.heap.size+4≤W.heap.size:=h.k2.lt
theorem Ss.grown {w W W':World}{b n cap base:Nat}{zs:List Int}{st:Option (List Int)}{cs:Array Value}{row:Option Nat}(h:Ss w W b n cap zs st cs)(hg:W.grownBy W' row)(hr:∀ k,row=some k→base≤k)(hb:w.heap.size+4≤base):Ss w W' b n cap zs st cs:=by
 have t:Turn (fun j=>row=some j) W W':=⟨hg.os,hg.tape,hg.output,hg.size,fun j hj hs=>hg.block j hj (fun e=>hs e.symm)⟩
 have hlo:=h.lo
 have hsz:=h.sz
 exact ⟨h.rd.grown hg hr (by omega) (fun _=>by omega),below_turn h.be t (fun k hk=>by have:=hr k hk;omega) h.be.size,turn_blk t h.k0 (fun e=>by have:=hr _ e;omega),turn_blk t h.k1 (fun e=>by have:=hr _ e;omega),turn_blk t h.k2 (fun e=>by have:=hr _ e;omega),h.lo⟩
theorem mark_of {zs:List Int}(hz:Byt zs):mark zs=true ↔ 2≤zs.length∧zs.getD 0 0=88∧zs.getD 1 0=77:=by
 unfold mark
 by_cases h2:2≤zs.length
 ·rw [decide_eq_true h2,Bool.true_and,decide_eq_true_iff,take2 zs h2]
  have z0:0≤zs.getD 0 0∧zs.getD 0 0≤255:=hz _ (by simp [List.getD_eq_getElem?_getD,show 0<zs.length by omega])
  have z1:0≤zs.getD 1 0∧zs.getD 1 0≤255:=hz _ (by simp [List.getD_eq_getElem?_getD,show 1<zs.length by omega])
  generalize zs.getD 0 0=x at *
  generalize zs.getD 1 0=y at *
  have key:∀ (x:Int) (c:Nat),0≤x∧x≤255→c≤255→(UInt8.ofNat x.toNat=UInt8.ofNat c ↔ x=(c:Int)):=fun x c hx hc=>by
   constructor
   ·intro e
    have e1:(UInt8.ofNat x.toNat).toNat=x.toNat % 256:=UInt8.toNat_ofNat'
    have e2:(UInt8.ofNat c).toNat=c % 256:=UInt8.toNat_ofNat'
    rw [e] at e1
    omega
   ·intro e
    rw [e,Int.toNat_natCast]
  constructor
  ·intro e
   have e':#[UInt8.ofNat x.toNat,UInt8.ofNat y.toNat]=#[88,77]:=congrArg ByteArray.data e
   simp at e'
   exact ⟨h2,(key x 88 z0 (by omega)).1 e'.1,(key y 77 z1 (by omega)).1 e'.2⟩
  ·rintro ⟨_,rfl,rfl⟩
   rfl
 ·rw [decide_eq_false h2]
  simp [h2]
theorem pa_none {w w':World}{p:Int × Option PMod}{c:Int}(hp:p=(c,none))(hb:Below w.heap.size w w'):PaPost w p (.returned (.tuple #[.agg z8,.int .i64 c])) w':=by
 subst hp
 exact ⟨hb,rfl⟩
theorem z8_frozen {W:World}{k:Nat}(h:Blk W k z8 104):W.frozen? ⟨k,0,none⟩=false∧W.frozen? ⟨k,1,none⟩=false∧W.frozen? ⟨k,2,none⟩=false∧W.frozen? ⟨k,3,none⟩=false∧W.frozen? ⟨k,4,none⟩=false∧W.frozen? ⟨k,5,none⟩=false∧W.frozen? ⟨k,6,none⟩=false∧W.frozen? ⟨k,7,none⟩=false:=h.froz
theorem none_end0 {w V:World}(b':Below w.heap.size w V)(k:Blk V w.heap.size z8 104)(c:Int)(p:Int × Option PMod)(hp:p=(c,none))(tmps:Array Value)(h2:tmps[2]?=some (.pointer (some ⟨w.heap.size,0,none⟩)))(h3:tmps[3]?=some (.int .i64 c)):
 bodyPost Tryz.prog Tryz.f67 (PaPost w p) Exit.ret ⟨tmps,[]⟩ V:=by
 obtain ⟨t0,t1,t2,t3,t4,t5,t6,t7⟩:=z8_cells k
 refine bodyPost_ret_by (v:=.tuple #[.agg z8,.int .i64 c]) ?_ rfl (pa_none hp b')
 simp [results,Tryz.results67,go_sem,h2,h3,t0,t1,t2,t3,t4,t5,t6,t7,z8]
theorem none_end {w W:World}(be:Below w.heap.size w W)(k0:Blk W w.heap.size z8 104)(c:Int)(p:Int × Option PMod)(hp:p=(c,none))(tmps:Array Value)(h2:tmps[2]?=some (.pointer (some ⟨w.heap.size,0,none⟩)))(h3:tmps[3]?=some (.int .i64 c)):
 bodyPost Tryz.prog Tryz.f67 (PaPost w p) Exit.ret ⟨tmps,[]⟩ (st8 W w.heap.size (.string ⟨#[]⟩) (.slice none 0 0) (.slice none 0 0) (.slice none 0 0) (.int .i64 0) (.slice none 0 0) (.slice none 0 0) (.slice none 0 0)):=by
 have t:=turn_st8 W w.heap.size (.string ⟨#[]⟩) (.slice none 0 0) (.slice none 0 0) (.slice none 0 0) (.int .i64 0) (.slice none 0 0) (.slice none 0 0) (.slice none 0 0)
 have k:=blk_st8 k0 rfl (.string ⟨#[]⟩) (.slice none 0 0) (.slice none 0 0) (.slice none 0 0) (.int .i64 0) (.slice none 0 0) (.slice none 0 0) (.slice none 0 0)
 exact none_end0 (below_turn be t (fun k hk=>by omega) be.size) k c p hp tmps h2 h3
theorem sParse_bad (b n cap:Nat)(zs:List Int)(w:World)(h:BS w (some ⟨b,0,none⟩) n cap zs)(hn:n≤1048576)(hb:b<w.heap.size)(hbad:¬ (n≤20000∧2≤n∧zs.getD 0 0=88∧zs.getD 1 0=77)):
 Calls Tryz.prog 67 #[.slice (some ⟨b,0,none⟩) n cap] w (PaPost w (prs zs)):=by
 have HBAD:=hide hbad
 clear hbad
 have hl:=h.1
 have hby:Byt zs:=h.2.2.1
 have HMK:=hide (mark_of hby)
 have HPR:Hid (prs zs=if 20000<zs.length then (3,none) else if mark zs=false then (1,none) else match pMod (zs.drop 2) with
  | none=>(2,none)
  | some x=>if x.2≠[] then (3,none) else if mdoP x.1≠0 then (10+mdoP x.1,none) else (0,some x.1)):=rfl
 obtain ⟨W0,hW0⟩:∃ W0,W0=(w.alloc (.cells #[.string ⟨#[]⟩,.slice none 0 0,.slice none 0 0,.slice none 0 0,.int .i64 0,.slice none 0 0,.slice none 0 0,.slice none 0 0] 104)).alloc (.cells #[.string ⟨#[]⟩,.slice none 0 0,.slice none 0 0,.slice none 0 0,.int .i64 0,.slice none 0 0,.slice none 0 0,.slice none 0 0] 104):=⟨_,rfl⟩
 have F0:Below w.heap.size w W0∧Blk W0 w.heap.size z8 104∧Blk W0 (w.heap.size+1) z8 104:=by
  subst hW0
  have b1:Below w.heap.size w (w.alloc (.cells #[.string ⟨#[]⟩,.slice none 0 0,.slice none 0 0,.slice none 0 0,.int .i64 0,.slice none 0 0,.slice none 0 0,.slice none 0 0] 104)):=(Below.refl _ _).alloc (Nat.le_refl _) _
  have k1:=Blk.new w #[.string ⟨#[]⟩,.slice none 0 0,.slice none 0 0,.slice none 0 0,.int .i64 0,.slice none 0 0,.slice none 0 0,.slice none 0 0] 104
  have hs1:(w.alloc (.cells #[.string ⟨#[]⟩,.slice none 0 0,.slice none 0 0,.slice none 0 0,.int .i64 0,.slice none 0 0,.slice none 0 0,.slice none 0 0] 104)).heap.size=w.heap.size+1:=by simp
  generalize w.alloc (.cells #[.string ⟨#[]⟩,.slice none 0 0,.slice none 0 0,.slice none 0 0,.int .i64 0,.slice none 0 0,.slice none 0 0,.slice none 0 0] 104)=W1 at *
  have b2:Below W1.heap.size W1 (W1.alloc (.cells #[.string ⟨#[]⟩,.slice none 0 0,.slice none 0 0,.slice none 0 0,.int .i64 0,.slice none 0 0,.slice none 0 0,.slice none 0 0] 104)):=(Below.refl _ _).alloc (Nat.le_refl _) _
  have k2:=Blk.new W1 #[.string ⟨#[]⟩,.slice none 0 0,.slice none 0 0,.slice none 0 0,.int .i64 0,.slice none 0 0,.slice none 0 0,.slice none 0 0] 104
  rw [hs1] at k2
  exact ⟨b1.trans (b2.mono (by omega)),k1.below b2,k2⟩
 obtain ⟨B0,K0,K1⟩:=F0
 obtain ⟨p0,p1,p2,p3,p4,p5,p6,p7⟩:=z8_cells K0
 obtain ⟨f0,f1,f2,f3,f4,f5,f6,f7⟩:=z8_frozen K0
 obtain ⟨u0,u1,u2,u3,u4,u5,u6,u7⟩:=z8_cells K1
 have HB0:=hide B0
 have HK0:=hide K0
 have HB:=hide (h.below B0)
 by_cases c1:20000<n
 ·have c1':(20000:Int)<(n:Int):=by omega
  have HP:=hide (show prs zs=(3,none) by rw [HPR.out,if_pos (by omega)])
  clear B0 K0 K1 h HPR HMK
  go_enter Tryz.func67,Tryz.ntmps67
  go_wp2
  rw [← hW0]
  exact none_end0 HB0.out HK0.out 3 _ HP.out _ rfl rfl
 ·have c1':¬ (20000:Int)<(n:Int):=by omega
  by_cases c2:n<2
  ·have c2':(n:Int)<2:=by omega
   have HP:=hide (show prs zs=(1,none) by
    rw [HPR.out,if_neg (by omega),if_pos]
    cases e:mark zs with
    | false=>rfl
    | true=>have:=HMK.out.1 e;omega)
   clear B0 K0 K1 h HPR HMK
   go_enter Tryz.func67,Tryz.ntmps67
   go_wp2
   rw [← hW0]
   exact none_end0 HB0.out HK0.out 1 _ HP.out _ rfl rfl
  ·have c2':¬ (n:Int)<2:=by omega
   have m0:(0:Int)<(n:Int):=by omega
   have m1:(1:Int)<(n:Int):=by omega
   have b0:=HB.out.at 0 (by omega)
   have b1:=HB.out.at 1 (by omega)
   rw [hW0] at b0 b1
   by_cases c3:zs.getD 0 0=88∧zs.getD 1 0=77
   ·exact absurd ⟨by omega,by omega,c3.1,c3.2⟩ HBAD.out
   ·have HP:=hide (show prs zs=(1,none) by
     rw [HPR.out,if_neg (by omega),if_pos]
     cases e:mark zs with
     | false=>rfl
     | true=>have:=HMK.out.1 e;exact absurd ⟨this.2.1,this.2.2⟩ c3)
    have d1:(zs.getD 0 0 == 88)=false∨(zs.getD 1 0 == 77)=false:=by
     by_cases e:zs.getD 0 0=88
     ·right;simp;intro e';exact c3 ⟨e,by simpa [List.getD_eq_getElem?_getD] using e'⟩
     ·left;simp;intro e';exact e (by simpa [List.getD_eq_getElem?_getD] using e')
    generalize zs.getD 0 0=x at *
    generalize zs.getD 1 0=y at *
    by_cases e0:x=88
    ·subst e0
     have e1:(y != 77)=true:=by simp;intro e;exact c3 ⟨rfl,e⟩
     clear B0 K0 K1 h HPR HMK c3 d1
     go_enter Tryz.func67,Tryz.ntmps67
     go_wp2
     rw [← hW0]
     exact none_end0 HB0.out HK0.out 1 _ HP.out _ rfl rfl
    ·have e1:(x != 88)=true:=by simp [e0]
     clear B0 K0 K1 h HPR HMK c3 d1
     go_enter Tryz.func67,Tryz.ntmps67
     go_wp2
     rw [← hW0]
     exact none_end0 HB0.out HK0.out 1 _ HP.out _ rfl rfl
theorem ss_new {w W0:World}{b n cap:Nat}{zs:List Int}(h:BS w (some ⟨b,0,none⟩) n cap zs)(hn:n≤1048576)(hb:b<w.heap.size)(h2:2≤n)(B0:Below w.heap.size w W0)(K0:Blk W0 w.heap.size z8 104)(K1:Blk W0 (w.heap.size+1) z8 104)(hs:W0.heap.size=w.heap.size+2):
 Ss w ((W0.alloc (.cells #[.slice (some ⟨b,0,none⟩) n cap,.int .i64 2,.bool false] 202)).alloc (.cells #[.string ⟨#[]⟩,.slice none 0 0,.slice none 0 0,.slice none 0 0,.int .i64 0,.slice none 0 0,.slice none 0 0,.slice none 0 0] 104)) b n cap zs (some (zs.drop 2)) z8:=by
 have b1:Below W0.heap.size W0 (W0.alloc (.cells #[.slice (some ⟨b,0,none⟩) n cap,.int .i64 2,.bool false] 202)):=(Below.refl _ _).alloc (Nat.le_refl _) _
 have k1:=Blk.new W0 #[.slice (some ⟨b,0,none⟩) n cap,.int .i64 2,.bool false] 202
 have hs1:(W0.alloc (.cells #[.slice (some ⟨b,0,none⟩) n cap,.int .i64 2,.bool false] 202)).heap.size=w.heap.size+3:=by simp [hs]
 rw [hs] at k1
 generalize W0.alloc (.cells #[.slice (some ⟨b,0,none⟩) n cap,.int .i64 2,.bool false] 202)=W1 at *
 have b2:Below W1.heap.size W1 (W1.alloc (.cells #[.string ⟨#[]⟩,.slice none 0 0,.slice none 0 0,.slice none 0 0,.int .i64 0,.slice none 0 0,.slice none 0 0,.slice none 0 0] 104)):=(Below.refl _ _).alloc (Nat.le_refl _) _
 have k2:=Blk.new W1 #[.string ⟨#[]⟩,.slice none 0 0,.slice none 0 0,.slice none 0 0,.int .i64 0,.slice none 0 0,.slice none 0 0,.slice none 0 0] 104
 rw [hs1] at k2
 have bb:=b1.trans (b2.mono (by omega))
 have B2:=B0.trans (bb.mono B0.size)
 exact ⟨⟨⟨2,h2,k1.below b2,fun r e=>by simp at e;exact e.symm⟩,h.below B2,by omega,hn⟩,B2,K0.below bb,K1.below bb,k2,hb⟩
theorem Ss.drew {w W:World}{b n cap:Nat}{zs:List Int}{st:Option (List Int)}{cs:Array Value}(h:Ss w W b n cap zs st cs):Ss w W.drew b n cap zs st cs:=⟨h.rd.drew,h.be.drew,h.k0,h.k1,h.k2,h.lo⟩
theorem Ss.two {w W:World}{b n cap:Nat}{zs:List Int}{st:Option (List Int)}{cs:Array Value}(h:Ss w W b n cap zs st cs)(j:Nat)(v:Value)(hj:cs[j]?=some v):W.cell? ⟨w.heap.size+3,j,none⟩=some v∧W.frozen? ⟨w.heap.size+3,j,none⟩=false:=⟨(h.k2.cell j).trans hj,h.k2.frozen j⟩
theorem Ss.short {w W:World}{b n cap:Nat}{zs:List Int}{st:Option (List Int)}{cs:Array Value}(h:Ss w W b n cap zs st cs):W.cell? ⟨w.heap.size+2,2,none⟩=some (.bool st.isNone):=by
 obtain ⟨k,_,hb,_⟩:=h.rd.pos
 simpa using hb.cell 2
theorem lf_dead {α:Type}(p:List Int→Option (α × List Int))(x:α):Lf p none x none:=⟨fun _=>rfl,fun _ h=>(by cases h),fun _ _ _ h=>(by cases h)⟩
theorem lf_map {α β:Type}{p:List Int→Option (α × List Int)}{s1 s2:Option (List Int)}{x:α}(f:α→β)(h:Lf p s1 x s2):Lf (fun zs=>(p zs).map fun u=>(f u.1,u.2)) s1 (f x) s2:=by
 refine ⟨h.n,fun zs e hp=>h.f zs e ?_,fun zs y r e hp=>?_⟩
 ·cases e':p zs with
  | none=>rfl
  | some v=>simp only [e'] at hp;simp at hp
 ·cases e':p zs with
  | none=>simp only [e'] at hp;simp at hp
  | some v=>
    simp only [e'] at hp
    simp at hp
    obtain ⟨a,b⟩:=h.s zs v.1 v.2 e e'
    exact ⟨by rw [a];exact hp.1,by rw [b,hp.2]⟩
theorem lf_X {s0 s1 s2 s3:Option (List Int)}{nm:ByteArray}{x y:Int}(L1:Lf pT s0 nm s1)(L2:Lf (pN 1) s1 x s2)(L3:Lf (pN 2) s2 y s3):Lf pX s0 (nm,x - 1,y) s3:=
 L1.bindM (q:=fun a r=>(pN 1 r).bind fun y=>(pN 2 y.2).map fun z=>((a,y.1 - 1,z.1),z.2)) (L2.bindM (q:=fun b r=>(pN 2 r).map fun z=>((nm,b - 1,z.1),z.2)) (lf_map (fun z=>(nm,x - 1,z)) L3))
theorem lf_alt {α:Type}{p:List Int→Option (α × List Int)}{zs:List Int}{x:α}{st:Option (List Int)}(h:Lf p (some zs) x st):(p zs=none∧st=none)∨∃ r,p zs=some (x,r)∧st=some r:=by
 cases e:p zs with
 | none=>exact .inl ⟨rfl,h.f zs rfl e⟩
 | some y=>
   obtain ⟨y,r⟩:=y
   obtain ⟨rfl,hr⟩:=h.s zs y r rfl e
   exact .inr ⟨r,rfl,hr⟩
theorem lf_of {α:Type}{p:List Int→Option (α × List Int)}{s0 st:Option (List Int)}{x:α}(hn:s0=none→st=none)(h:∀ zs,s0=some zs→(p zs=none∧st=none)∨∃ r,p zs=some (x,r)∧st=some r):Lf p s0 x st:=by
 refine ⟨hn,fun zs e hp=>?_,fun zs y r e hp=>?_⟩
 ·rcases h zs e with ⟨_,h2⟩ | ⟨r,h1,h2⟩
  ·exact h2
  ·rw [hp] at h1;cases h1
 ·rcases h zs e with ⟨h1,h2⟩ | ⟨r',h1,h2⟩
  ·rw [hp] at h1;cases h1
  ·rw [hp] at h1;cases h1;exact ⟨rfl,h2⟩
theorem lf_mod {s0 s1 s2 s3 s4 s5 s6 s7 s8 s9 s10 s11 s12 s13:Option (List Int)}{nm:ByteArray}{tz:List Int}{m:Int}{bl:List (List Int)}{nd:Int}{dz:List Int}{bss mr:Int}{rz:List Int}{mi:Int}{ss:List ByteArray}{me:Int}{es:List Ex}
 (L1:Lf pT s0 nm s1) (L2:Lf pL s1 tz s2) (L3:Lf (pN 1) s2 m s3) (L4:Lf (pM pL m.toNat) s3 bl s4) (L5:Lf (pN 2) s4 nd s5) (L6:Lf (pB nd.toNat) s5 dz s6) (L7:Lf (pN 2) s6 bss s7) (L8:Lf (pN 1) s7 mr s8) (L9:Lf (pM (pN 2) mr.toNat) s8 rz s9) (L10:Lf (pN 1) s9 mi s10) (L11:Lf (pM pT mi.toNat) s10 ss s11) (L12:Lf (pN 1) s11 me s12) (L13:Lf (pM pX me.toNat) s12 es s13):
 Lf pMod s0 ⟨nm,tz,bl,dz,bss,rz,ss,es⟩ s13:=by
 refine lf_of (fun h=>L13.n (L12.n (L11.n (L10.n (L9.n (L8.n (L7.n (L6.n (L5.n (L4.n (L3.n (L2.n (L1.n (h)))))))))))))) fun z0 hz=>?_
 subst hz
 unfold pMod
 rcases lf_alt L1 with ⟨e,rfl⟩ | ⟨z1,e,rfl⟩
 ·exact .inl ⟨by rw [e];rfl,L13.n (L12.n (L11.n (L10.n (L9.n (L8.n (L7.n (L6.n (L5.n (L4.n (L3.n (L2.n (rfl))))))))))))⟩
 rw [e]
 clear e
 simp only [Option.bind_some]
 rcases lf_alt L2 with ⟨e,rfl⟩ | ⟨z2,e,rfl⟩
 ·exact .inl ⟨by rw [e];rfl,L13.n (L12.n (L11.n (L10.n (L9.n (L8.n (L7.n (L6.n (L5.n (L4.n (L3.n (rfl)))))))))))⟩
 rw [e]
 clear e
 simp only [Option.bind_some]
 rcases lf_alt L3 with ⟨e,rfl⟩ | ⟨z3,e,rfl⟩
 ·exact .inl ⟨by rw [e];rfl,L13.n (L12.n (L11.n (L10.n (L9.n (L8.n (L7.n (L6.n (L5.n (L4.n (rfl))))))))))⟩
 rw [e]
 clear e
 simp only [Option.bind_some]
 rcases lf_alt L4 with ⟨e,rfl⟩ | ⟨z4,e,rfl⟩
 ·exact .inl ⟨by rw [e];rfl,L13.n (L12.n (L11.n (L10.n (L9.n (L8.n (L7.n (L6.n (L5.n (rfl)))))))))⟩
 rw [e]
 clear e
 simp only [Option.bind_some]
 rcases lf_alt L5 with ⟨e,rfl⟩ | ⟨z5,e,rfl⟩
 ·exact .inl ⟨by rw [e];rfl,L13.n (L12.n (L11.n (L10.n (L9.n (L8.n (L7.n (L6.n (rfl))))))))⟩
 rw [e]
 clear e
 simp only [Option.bind_some]
 rcases lf_alt L6 with ⟨e,rfl⟩ | ⟨z6,e,rfl⟩
 ·exact .inl ⟨by rw [e];rfl,L13.n (L12.n (L11.n (L10.n (L9.n (L8.n (L7.n (rfl)))))))⟩
 rw [e]
 clear e
 simp only [Option.bind_some]
 rcases lf_alt L7 with ⟨e,rfl⟩ | ⟨z7,e,rfl⟩
 ·exact .inl ⟨by rw [e];rfl,L13.n (L12.n (L11.n (L10.n (L9.n (L8.n (rfl))))))⟩
 rw [e]
 clear e
 simp only [Option.bind_some]
 rcases lf_alt L8 with ⟨e,rfl⟩ | ⟨z8,e,rfl⟩
 ·exact .inl ⟨by rw [e];rfl,L13.n (L12.n (L11.n (L10.n (L9.n (rfl)))))⟩
 rw [e]
 clear e
 simp only [Option.bind_some]
 rcases lf_alt L9 with ⟨e,rfl⟩ | ⟨z9,e,rfl⟩
 ·exact .inl ⟨by rw [e];rfl,L13.n (L12.n (L11.n (L10.n (rfl))))⟩
 rw [e]
 clear e
 simp only [Option.bind_some]
 rcases lf_alt L10 with ⟨e,rfl⟩ | ⟨z10,e,rfl⟩
 ·exact .inl ⟨by rw [e];rfl,L13.n (L12.n (L11.n (rfl)))⟩
 rw [e]
 clear e
 simp only [Option.bind_some]
 rcases lf_alt L11 with ⟨e,rfl⟩ | ⟨z11,e,rfl⟩
 ·exact .inl ⟨by rw [e];rfl,L13.n (L12.n (rfl))⟩
 rw [e]
 clear e
 simp only [Option.bind_some]
 rcases lf_alt L12 with ⟨e,rfl⟩ | ⟨z12,e,rfl⟩
 ·exact .inl ⟨by rw [e];rfl,L13.n (rfl)⟩
 rw [e]
 clear e
 simp only [Option.bind_some]
 rcases lf_alt L13 with ⟨e,rfl⟩ | ⟨z13,e,rfl⟩
 ·exact .inl ⟨by rw [e];rfl,rfl⟩
 rw [e]
 clear e
 exact .inr ⟨z13,rfl,rfl⟩
def prs2 (zs:List Int):Int × Option PMod:=match pMod (zs.drop 2) with
 | none=>(2,none)
 | some x=>if x.2≠[] then (3,none) else if mdoP x.1≠0 then (10+mdoP x.1,none) else (0,some x.1)
theorem prs2_none {zs:List Int}{P:PMod}(h:Lf pMod (some (zs.drop 2)) P none):prs2 zs=(2,none):=by
 unfold prs2
 cases e:pMod (zs.drop 2) with
 | none=>rfl
 | some x=>have:=(h.s _ x.1 x.2 rfl e).2;cases this
theorem prs2_some {zs r:List Int}{P:PMod}(h:Lf pMod (some (zs.drop 2)) P (some r)):pMod (zs.drop 2)=some (P,r)∧prs2 zs=if r≠[] then (3,none) else if mdoP P≠0 then (10+mdoP P,none) else (0,some P):=by
 cases e:pMod (zs.drop 2) with
 | none=>have:=h.f _ rfl e;cases this
 | some x=>
   obtain ⟨h1,h2⟩:=h.s _ x.1 x.2 rfl e
   simp at h2
   subst h1 h2
   refine ⟨rfl,?_⟩
   unfold prs2
   rw [e]
def StS (w:World)(A:World→Prop):Prop:=∀ W W',Turn (Sg w) W W'→A W→A W'
theorem StS.and {w:World}{A B:World→Prop}(a:StS w A)(b:StS w B):StS w (fun W=>A W∧B W):=fun W W' t h=>⟨a W W' t h.1,b W W' t h.2⟩
theorem sts_og {α:Type}{t:TypeId}{sz:Nat}{f:α→List Value}{w:World}{base:Nat}{v:Value}{xs:List α}(hb:w.heap.size+4≤base):StS w (fun W=>OG t sz f W base v xs):=fun W W' t h=>h.turn t (fun k hk=>by unfold Sg at hk;omega)
theorem sts_obk {w:World}{base:Nat}{v:Value}{bl:List Bk}(hb:w.heap.size+4≤base):StS w (fun W=>OBk W base v bl):=fun W W' t h=>h.turn t (fun k hk=>by unfold Sg at hk;omega)
theorem sts_ob {w:World}{base:Nat}{v:Value}{zs:List Int}(hb:w.heap.size+4≤base):StS w (fun W=>OB W base v zs):=fun W W' t h=>turn_ob t h (fun k hk e=>by have:=(h.lt k hk).1;unfold Sg at e;omega)
theorem Sg.a {w:World}{W W':World}(t:Turn (fun j=>j=w.heap.size+2) W W'):Turn (Sg w) W W':=t.mono (fun j hj=>.inl hj)
theorem Sg.b {w W:World}(i:Nat)(v:Value):Turn (Sg w) W (W.setCell ⟨w.heap.size+3,i,none⟩ v):=(turn_set W (w.heap.size+3) i v).mono (fun j hj=>.inr hj)
theorem Ss.num {w W:World}{b n cap:Nat}{zs:List Int}{st:Option (List Int)}{cs:Array Value}(h:Ss w W b n cap zs st cs)(s:Nat)(hs:s=1∨s=2):
 Calls Tryz.prog 152 #[.pointer (some ⟨w.heap.size+2,0,none⟩),.int .i64 s] W fun e w'=>∃ (x:Nat) (st':Option (List Int)),e=.returned (.int .i64 (x:Int))∧x≤65535∧(s=1→x≤255)∧Lf (pN s) st (x:Int) st'∧Ss w w' b n cap zs st' cs∧Turn (Sg w) W w':=by
 refine (num_rd (w.heap.size+2) b n cap zs st s W h.rd (by omega)).mono ?_
 rintro e w' ⟨rfl,R,T⟩
 have hx:=oN_range h.rd s (by omega)
 have L:=lf_N s st
 generalize oN s st=X at *
 obtain ⟨x,st'⟩:=X
 obtain ⟨m,rfl⟩:∃ m:Nat,x=(m:Int):=⟨x.toNat,by have:=hx.1;dsimp only at this;omega⟩
 exact ⟨m,st',rfl,by have:=hx.2.2.1 (by omega);dsimp only at this;omega,fun e=>by have:=hx.2.2.2 e;dsimp only at this;omega,L,h.call T R,Sg.a T⟩
theorem Ss.num0 {w W:World}{b n cap:Nat}{zs:List Int}{cs:Array Value}(h:Ss w W b n cap zs none cs)(s:Nat)(hs:s=1∨s=2):
 Calls Tryz.prog 152 #[.pointer (some ⟨w.heap.size+2,0,none⟩),.int .i64 s] W fun e w'=>e=.returned (.int .i64 0)∧Ss w w' b n cap zs none cs:=by
 refine (num_rd (w.heap.size+2) b n cap zs none s W h.rd (by omega)).mono ?_
 rintro e w' ⟨rfl,R,T⟩
 exact ⟨rfl,h.call T R⟩
theorem Ss.bytes {w W:World}{b n cap:Nat}{zs:List Int}{st:Option (List Int)}{cs:Array Value}(h:Ss w W b n cap zs st cs)(s:Nat)(hs:s≤65535):
 Calls Tryz.prog 153 #[.pointer (some ⟨w.heap.size+2,0,none⟩),.int .i64 s] W fun e w'=>∃ (x:List Int) (st':Option (List Int)) (a:Option Addr) (c:Nat),e=.returned (.slice a x.length c)∧OB w' W.heap.size (.slice a x.length c) x∧Lf (pB s) st x st'∧Ss w w' b n cap zs st' cs∧Turn (Sg w) W w':=by
 refine (bytes_rd (w.heap.size+2) b n cap zs st s W h.rd hs).mono ?_
 rintro e w' ⟨a,c,rfl,O,R,T⟩
 exact ⟨_,_,a,c,rfl,O,lf_B s st,h.call T R,Sg.a T⟩
theorem Ss.bytes0 {w W:World}{b n cap:Nat}{zs:List Int}{cs:Array Value}(h:Ss w W b n cap zs none cs):
 Calls Tryz.prog 153 #[.pointer (some ⟨w.heap.size+2,0,none⟩),.int .i64 0] W fun e w'=>∃ (a:Option Addr) (c:Nat),e=.returned (.slice a 0 c)∧Ss w w' b n cap zs none cs:=by
 refine (bytes_rd (w.heap.size+2) b n cap zs none 0 W h.rd (by omega)).mono ?_
 rintro e w' ⟨a,c,rfl,O,R,T⟩
 exact ⟨a,c,rfl,h.call T R⟩
theorem Ss.text {w W:World}{b n cap:Nat}{zs:List Int}{st:Option (List Int)}{cs:Array Value}(h:Ss w W b n cap zs st cs):
 Calls Tryz.prog 150 #[.pointer (some ⟨w.heap.size+2,0,none⟩)] W fun e w'=>∃ (x:ByteArray) (st':Option (List Int)),e=.returned (.string x)∧Lf pT st x st'∧Ss w w' b n cap zs st' cs∧Turn (Sg w) W w':=by
 refine (text_rs (w.heap.size+2) b n cap zs st W h.rd).mono ?_
 rintro e w' ⟨x,v,st',rfl,⟨rfl,hx⟩,R,T,L⟩
 exact ⟨x,st',rfl,L,h.call T R,Sg.a T⟩
theorem Ss.words {w W:World}{b n cap:Nat}{zs:List Int}{st:Option (List Int)}{cs:Array Value}(h:Ss w W b n cap zs st cs):
 Calls Tryz.prog 151 #[.pointer (some ⟨w.heap.size+2,0,none⟩)] W fun e w'=>∃ (x:List Int) (st':Option (List Int)) (a:Option Addr) (c:Nat),e=.returned (.slice a x.length c)∧OG 3 1 clI w' W.heap.size (.slice a x.length c) x∧Lf pL st x st'∧Ss w w' b n cap zs st' cs∧Turn (Sg w) W w':=by
 refine (words_rs (w.heap.size+2) b n cap zs st W h.rd).mono ?_
 rintro e w' ⟨x,v,st',rfl,⟨⟨a,c,rfl⟩,o,hw,hx⟩,R,T,L⟩
 exact ⟨x,st',a,c,rfl,o,L,h.call T R,Sg.a T⟩
theorem Ss.other {w W:World}{b n cap g:Nat}{zs:List Int}{st:Option (List Int)}{cs:Array Value}(h:Ss w W b n cap zs st cs)(i:Nat)(v:Value)(hg:w.heap.size+4≤g):Ss w (W.setCell ⟨g,i,none⟩ v) b n cap zs st cs:=
 ⟨h.rd.turn (turn_set W g i v) (by omega) (by have:=h.lo;omega),below_turn h.be (turn_set W g i v) (fun k hk=>by omega) h.be.size,turn_blk (turn_set W g i v) h.k0 (by omega),turn_blk (turn_set W g i v) h.k1 (by omega),turn_blk (turn_set W g i v) h.k2 (by omega),h.lo⟩
theorem mod_end {w W:World}{P:PMod}{a1:Option Addr}{c1:Nat}{a2:Option Addr}{c2:Nat}{bl:List Bk}{a3:Option Addr}{c3:Nat}{a5:Option Addr}{c5:Nat}{a6:Option Addr}{c6:Nat}{a7:Option Addr}{c7:Nat}(be:Below w.heap.size w W)(k0:Blk W w.heap.size z8 104)(MO:ModO W (w.heap.size+4) P a1 c1 a2 c2 bl a3 c3 a5 c5 a6 c6 a7 c7)(p:Int × Option PMod)(hp:p=(0,some P))(tmps:Array Value)(h2:tmps[2]?=some (.pointer (some ⟨w.heap.size,0,none⟩)))(h3:tmps[3]?=some (.int .i64 0)):
 bodyPost Tryz.prog Tryz.f67 (PaPost w p) Exit.ret ⟨tmps,[]⟩ (st8 W w.heap.size (.string P.nm) (.slice a1 P.tz.length c1) (.slice a2 bl.length c2) (.slice a3 P.dz.length c3) (.int .i64 P.bss) (.slice a5 P.rz.length c5) (.slice a6 P.ss.length c6) (.slice a7 P.es.length c7)):=by
 have t:=turn_st8 W w.heap.size (.string P.nm) (.slice a1 P.tz.length c1) (.slice a2 bl.length c2) (.slice a3 P.dz.length c3) (.int .i64 P.bss) (.slice a5 P.rz.length c5) (.slice a6 P.ss.length c6) (.slice a7 P.es.length c7)
 have k:=blk_st8 k0 rfl (.string P.nm) (.slice a1 P.tz.length c1) (.slice a2 bl.length c2) (.slice a3 P.dz.length c3) (.int .i64 P.bss) (.slice a5 P.rz.length c5) (.slice a6 P.ss.length c6) (.slice a7 P.es.length c7)
 obtain ⟨t0,t1,t2,t3,t4,t5,t6,t7⟩:=k.eight'
 refine bodyPost_ret_by (v:=.tuple #[.agg (modV P a1 c1 a2 c2 bl a3 c3 a5 c5 a6 c6 a7 c7),.int .i64 0]) ?_ rfl ?_
 ·simp [results,Tryz.results67,go_sem,h2,h3,t0,t1,t2,t3,t4,t5,t6,t7,modV]
 ·subst hp
  exact ⟨below_turn be t (fun k hk=>by omega) be.size,a1,c1,a2,c2,bl,a3,c3,a5,c5,a6,c6,a7,c7,rfl,(MO.turn t (fun k hk=>by omega)).mono (by omega)⟩
theorem cutW2 {S F:Value→World→Prop}{G:Prop}(main:(∀ v W,F v W→S v W)→G)(pf:∀ v W,F v W→S v W):G:=main pf
structure Pc (w0 w:World)(cm cp:Array Value)(g n base:Nat)(zs:List Int)(W:World):Prop where
 be:Below w0.heap.size w0 W
 km:Blk W w.heap.size cm 104
 kp:Blk W (w.heap.size+1) cp 138
 o:OB W base (.slice (some ⟨g,0,none⟩) n n) zs
 t:Turn (fun j=>j=g) w W
section
variable {w0 w:World}{cm cp:Array Value}{g n base:Nat}{zs:List Int}{W W':World}
theorem Pc.below (h:Pc w0 w cm cp g n base zs W)(hb:Below W.heap.size W W'):Pc w0 w cm cp g n base zs W':=⟨h.be.trans (hb.mono h.be.size),h.km.below hb,h.kp.below hb,h.o.below hb,h.t.trans (turn_below hb)⟩
theorem Pc.drew (h:Pc w0 w cm cp g n base zs W):Pc w0 w cm cp g n base zs W.drew:=h.below (Below.refl _ _).drew
theorem Pc.set (h:Pc w0 w cm cp g n base zs W){zs':List Int}(hg:w0.heap.size≤g)(O:OB W' base (.slice (some ⟨g,0,none⟩) n n) zs')(T:Only g W W'):Pc w0 w cm cp g n base zs' W':=by
 obtain ⟨c1,k1⟩:=ob_blk h.o
 exact ⟨only_below h.be T hg,only_blk T h.km (fun e=>absurd (blk_kind (show Blk W g cm 104 from e ▸ h.km) k1) (by decide)),only_blk T h.kp (fun e=>absurd (blk_kind (show Blk W g cp 138 from e ▸ h.kp) k1) (by decide)),O,h.t.trans (only_turn' T)⟩
end
theorem pour_zero (zs:List Int)(k:Nat)(ws:List Int):pour zs k ws 0=zs:=rfl
theorem putCode_any (g F:Nat)(nm:ByteArray)(ta:Option Addr)(tn tc:Nat)(tz:List Int)(ba:Option Addr)(bn bc:Nat)(bl:List Bk)(da:Option Addr)(dn dc:Nat)(bss:Int)(ra:Option Addr)(rn rc:Nat)(ia:Option Addr)(im ic:Nat)(ea:Option Addr)(en ec:Nat)(P:PMod)(kt:Nat)(xa:Option Addr)(xb:List Int)(xc:Nat)(xd xz:Int)(fz:List Int)(base:Nat)(w w0:World)(hT:IS w0 ta tn tc tz)(hB:BKS w0 ba bn bc bl)(hP1:P.tz=tz)(hP2:P.bl=bl.map (fun B=>B.2.2.2))(hx:IS w0 xa xb.length xc xb)(hb:Below w0.heap.size w0 w)(hg:w0.heap.size≤g)(ho:OB w base (.slice (some ⟨g,0,none⟩) F F) fz)(hF:F≤16384)(hbn4:bn≤4)
 (ht:kt+4 * tn≤F) (hxb:xb.length=bn) (hbk:∀ j,j<bn→0≤xb.getD j 0∧xb.getD j 0+4 * ((bl.getD j zB).2.1:Int)≤(F:Int)):
 Calls Tryz.prog 86 #[.slice (some ⟨g,0,none⟩) F F,.agg #[.string nm,.slice ta tn tc,.slice ba bn bc,.slice da dn dc,.int .i64 bss,.slice ra rn rc,.slice ia im ic,.slice ea en ec],.agg #[.int .i64 (kt:Int),.slice xa xb.length xc,.int .i64 xd,.int .i64 xz]] w fun e w'=>e=.returned (.tuple #[])∧OB w' base (.slice (some ⟨g,0,none⟩) F F) (pourB fz P ⟨(kt:Int),xb,xd,xz⟩ P.bl.length)∧Turn (fun j=>j=g) w w':=by
 have hbl:bl.length=bn:=hB.1
 have htl:tz.length=tn:=hT.1
 have HPL:=hide (show P.bl.length=bn by rw [hP2,List.length_map];exact hbl)
 have HP0:=hide (show pourB fz P ⟨(kt:Int),xb,xd,xz⟩ 0=pour fz kt tz tn by show pour fz ((kt:Int)).toNat P.tz P.tz.length=_;rw [hP1,Int.toNat_natCast,htl])
 have HPS:=hide (show ∀ j,j<bn→pourB fz P ⟨(kt:Int),xb,xd,xz⟩ (j+1)=pour (pourB fz P ⟨(kt:Int),xb,xd,xz⟩ j) (xb.getD j 0).toNat (bl.getD j zB).2.2.2 (bl.getD j zB).2.1 from fun j hj=>by
  have e:P.bl.getD j []=(bl.getD j zB).2.2.2:=by rw [hP2,getD_map _ _ _ zB _ (by omega)]
  show pour _ (xb.getD j 0).toNat (P.bl.getD j []) (P.bl.getD j []).length=_
  rw [e,(hB.2.2.2.1 j hj).1])
 have HPW:=hide (fun (cm cp:Array Value) (zs:List Int) (k:Nat) (a:Option Addr) (wn wc:Nat) (ws:List Int) (X:World) (hw:IS w0 a wn wc ws) (S:Pc w0 w cm cp g F base zs X) (hk:k+4 * wn≤F) (hlt:k<F)=>(putWords_any g F F k (F - k) (F - k) a wn wc ws zs base w0 X hw S.be hg S.o hF hk (by omega) (Nat.le_refl _) (by omega)).mono (fun e w' he=>show e=.returned (.tuple #[])∧Pc w0 w cm cp g F base (pour zs k ws wn) w' from ⟨he.1,S.set hg he.2.1 he.2.2⟩))
 have HPW0:=hide (fun (cm cp:Array Value) (zs:List Int) (k:Nat) (a:Option Addr) (wn wc:Nat) (ws:List Int) (X:World) (hw:IS w0 a wn wc ws) (S:Pc w0 w cm cp g F base zs X) (hk:k+4 * wn≤F) (hlt:¬ k<F)=>(putWords_any g F F 0 0 0 a wn wc ws zs base w0 X hw S.be hg S.o hF (by omega) (by omega) (Nat.le_refl _) (by omega)).mono (fun e w' he=>show e=.returned (.tuple #[])∧Pc w0 w cm cp g F base (pour zs k ws wn) w' from ⟨he.1,by
  have e0:wn=0:=by omega
  have:=S.set hg he.2.1 he.2.2
  rw [e0,pour_zero] at this ⊢
  exact this⟩))
 have HB:=hide hB
 have HX:=hide hx
 have HT:=hide hT
 have HBK:=hide hbk
 have S0:Pc w0 w #[.string nm,.slice ta tn tc,.slice ba bn bc,.slice da dn dc,.int .i64 bss,.slice ra rn rc,.slice ia im ic,.slice ea en ec] #[.int .i64 (kt:Int),.slice xa xb.length xc,.int .i64 xd,.int .i64 xz] g F base fz ((w.alloc (.cells #[.string nm,.slice ta tn tc,.slice ba bn bc,.slice da dn dc,.int .i64 bss,.slice ra rn rc,.slice ia im ic,.slice ea en ec] 104)).alloc (.cells #[.int .i64 (kt:Int),.slice xa xb.length xc,.int .i64 xd,.int .i64 xz] 138)):=by
  have bb:Below w.heap.size w ((w.alloc (.cells #[.string nm,.slice ta tn tc,.slice ba bn bc,.slice da dn dc,.int .i64 bss,.slice ra rn rc,.slice ia im ic,.slice ea en ec] 104)).alloc (.cells #[.int .i64 (kt:Int),.slice xa xb.length xc,.int .i64 xd,.int .i64 xz] 138)):=((Below.refl _ _).alloc (Nat.le_refl _) _).alloc (by simp) _
  exact ⟨hb.trans (bb.mono hb.size),(Blk.new _ _ _).alloc _,by have:=Blk.new (w.alloc (.cells #[.string nm,.slice ta tn tc,.slice ba bn bc,.slice da dn dc,.int .i64 bss,.slice ra rn rc,.slice ia im ic,.slice ea en ec] 104)) #[.int .i64 (kt:Int),.slice xa xb.length xc,.int .i64 xd,.int .i64 xz] 138;simpa using this,ho.below bb,turn_below bb⟩
 have HS0:=hide S0
 have HXB:=hide hxb
 have HBL:=hide hbl
 clear S0 hB hx hT hbk ho hb hP1 hP2 htl hxb hbl
 go_enter Tryz.func86,Tryz.ntmps86
 go_wp2_with fail
 generalize ((w.alloc (.cells #[.string nm,.slice ta tn tc,.slice ba bn bc,.slice da dn dc,.int .i64 bss,.slice ra rn rc,.slice ia im ic,.slice ea en ec] 104)).alloc (.cells #[.int .i64 (kt:Int),.slice xa xb.length xc,.int .i64 xd,.int .i64 xz] 138))=W0 at *
 generalize hcm:(#[.string nm,.slice ta tn tc,.slice ba bn bc,.slice da dn dc,.int .i64 bss,.slice ra rn rc,.slice ia im ic,.slice ea en ec]:Array Value)=cm at HS0
 generalize hcp:(#[.int .i64 (kt:Int),.slice xa xb.length xc,.int .i64 xd,.int .i64 xz]:Array Value)=cp at HS0
 have HCM:=hide (And.intro hcm hcp)
 clear hcm hcp
 have HCL:=hide (fun (zs:List Int) (X:World) (S:Pc w0 w cm cp g F base zs X)=>show X.cell? ⟨w.heap.size,1,none⟩=some (.slice ta tn tc)∧X.cell? ⟨w.heap.size,2,none⟩=some (.slice ba bn bc)∧X.cell? ⟨w.heap.size+1,0,none⟩=some (.int .i64 (kt:Int))∧X.cell? ⟨w.heap.size+1,1,none⟩=some (.slice xa xb.length xc) from by
  have h1:=S.km
  have h2:=S.kp
  rw [← HCM.out.1] at h1
  rw [← HCM.out.2] at h2
  exact ⟨h1.cell 1,h1.cell 2,h2.cell 0,h2.cell 1⟩)
 obtain ⟨x1,x2,y0,y1⟩:=HCL.out _ _ HS0.out
 have k0':(0:Int)≤(kt:Int):=by omega
 have k1':(kt:Int)≤(F:Int):=by omega
 apply cutW2 (F:=fun v W=>Pc w0 w cm cp g F base (pourB fz P ⟨(kt:Int),xb,xd,xz⟩ 0) W)
 ·intro REST0
  have REST:=hide REST0
  clear REST0
  rw [HP0.out] at REST
  by_cases hkF:kt<F
  ·have hkF':(kt:Int)<(F:Int):=by omega
   have hkn:¬ (F=kt):=by omega
   go_region_held3 (fun w'=>w'.cell? ⟨w.heap.size,1,none⟩=some (.slice ta tn tc)∧w'.cell? ⟨w.heap.size+1,0,none⟩=some (.int .i64 (kt:Int))) (go_keep)
    (first
      | (go_at_call 178;first
          | with_reducible refine (HPW.out cm cp fz kt ta tn tc tz _ HT.out HS0.out ht hkF).mono ?_
          | with_reducible refine (HPW.out cm cp fz kt ta tn tc tz _ HT.out HS0.out.drew ht hkF).mono ?_
         rintro e w2 ⟨rfl,hS2⟩
         have HS2:=hide hS2
         clear hS2
         obtain ⟨z1,z2,z3,z4⟩:=HCL.out _ _ HS2.out))
   generalize Value.slice (some ⟨g,kt,none⟩) (F - kt) (F - kt)=v11
   exact REST.out v11 w2 HS2.out
  ·obtain rfl:F=kt:=by omega
   go_region_held3 (fun w'=>w'.cell? ⟨w.heap.size,1,none⟩=some (.slice ta tn tc)∧w'.cell? ⟨w.heap.size+1,0,none⟩=some (.int .i64 (F:Int))) (go_keep)
    (first
      | (go_at_call 178;first
          | with_reducible refine (HPW0.out cm cp fz F ta tn tc tz _ HT.out HS0.out ht hkF).mono ?_
          | with_reducible refine (HPW0.out cm cp fz F ta tn tc tz _ HT.out HS0.out.drew ht hkF).mono ?_
         rintro e w2 ⟨rfl,hS2⟩
         have HS2:=hide hS2
         clear hS2
         obtain ⟨z1,z2,z3,z4⟩:=HCL.out _ _ HS2.out))
   exact REST.out _ w2 HS2.out
 ·rintro v11 W2 hS2
  show Exit.then _ _ _ _ _
  obtain ⟨z1,z2,z3,z4⟩:=HCL.out _ _ hS2
  have HS2:=hide hS2
  clear hS2 x1 x2 y0 y1 HS0 k0' k1'
  go_wp2
  clear z1 z2 z3 z4
  go_loopw [18] (fun i wr=>∃ j:Nat,j≤bn∧i=.int .i64 j∧Pc w0 w cm cp g F base (pourB fz P ⟨(kt:Int),xb,xd,xz⟩ j) wr) (fun i _=>bn - (intOf i).toNat)
  case atStart=>exact ⟨0,Nat.zero_le _,rfl,HS2.out⟩
  case round=>
   clear HS2
   obtain ⟨j,hj,rfl,hJ⟩:=hrel
   generalize wr=wj at *
   have HJ:=hide hJ
   obtain ⟨z1,z2,z3,z4⟩:=HCL.out _ _ hJ
   by_cases hjb:j<bn
   ·have hjb':(j:Int)<(bn:Int):=by omega
    have hjx':(j:Int)<(xb.length:Int):=by have:=HXB.out;omega
    obtain ⟨bb,bo,rfl,hbc⟩:=HB.out.2.2.1 (show bn≠0 by omega)
    obtain ⟨qb,qo,rfl,hqc⟩:=HX.out.2.2.2.1 (show xb.length≠0 by have:=HXB.out;omega)
    have s1:=cell_below hJ.be (hqc j (by have:=HXB.out;omega))
    have s2:=cell_below hJ.be (hbc j hjb)
    obtain ⟨kb,hkb⟩:∃ kb:Nat,xb.getD j 0=(kb:Int):=⟨(xb.getD j 0).toNat,by have:=(HBK.out j hjb).1;omega⟩
    have HK2:=hide (show kb+4 * (bl.getD j zB).2.1≤F by have:=(HBK.out j hjb).2;rw [hkb] at this;omega)
    have HIB:=hide (HB.out.2.2.2.1 j hjb)
    have HPJ:=HPS.out j hjb
    rw [hkb,Int.toNat_natCast] at HPJ
    rw [hkb] at s1
    have HPJ:=hide HPJ
    have hk2:=HK2.out
    generalize hPJ:pourB fz P ⟨(kt:Int),xb,xd,xz⟩ (j+1)=ZJ at HPJ
    have HZJ:=hide hPJ
    clear hJ hbc hqc hkb hPJ
    generalize (bl.getD j zB).2.2.2=kw at *
    generalize (bl.getD j zB).1=k1 at *
    generalize (bl.getD j zB).2.1=k2 at *
    generalize (bl.getD j zB).2.2.1=k3 at *
    have b0':(0:Int)≤(kb:Int):=by omega
    have b1':(kb:Int)≤(F:Int):=by omega
    by_cases hkF:kb<F
    ·have hkF':(kb:Int)<(F:Int):=by omega
     have hkn:¬ (F=kb):=by omega
     have HC:=hide (HPW.out cm cp _ kb k1 k2 k3 kw wj HIB.out HJ.out HK2.out hkF)
     go_wp2_with fail
     refine HC.out.mono ?_
     rintro e w3 ⟨rfl,hS3⟩
     have HS3:=hide (show Pc w0 w cm cp g F base ZJ w3 by rw [HPJ.out];exact hS3)
     clear hS3 s1 s2 z1 z2 z3 z4
     go_wp2
     go_roundw
     case rel=>exact ⟨j+1,by omega,by go_num,by rw [HZJ.out];exact HS3.out⟩
     case measure=>simp [intOf];omega
    ·have hkF':¬ (kb:Int)<(F:Int):=by omega
     have HC:=hide (HPW0.out cm cp _ kb k1 k2 k3 kw wj HIB.out HJ.out HK2.out hkF)
     obtain rfl:F=kb:=by omega
     go_wp2_with fail
     refine HC.out.mono ?_
     rintro e w3 ⟨rfl,hS3⟩
     have HS3:=hide (show Pc w0 w cm cp g F base ZJ w3 by rw [HPJ.out];exact hS3)
     clear hS3 s1 s2 z1 z2 z3 z4
     go_wp2
     go_roundw
     case rel=>exact ⟨j+1,by omega,by go_num,by rw [HZJ.out];exact HS3.out⟩
     case measure=>simp [intOf];omega
   ·have e:Hid (j=bn):=by show j=bn;omega
    clear hJ
    go_wp2
    go_end0
    exact ⟨rfl,by rw [HPL.out,← e.out];exact HJ.out.o,HJ.out.t⟩
end Go.Proofs.YtngdgogjlpjjpaeGreat
