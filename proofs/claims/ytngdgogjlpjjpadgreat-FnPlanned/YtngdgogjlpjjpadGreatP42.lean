import Derived.Test.YtngdgogjlpjjpadGreatP41
namespace Go.Proofs.YtngdgogjlpjjpadGreat
open Go.RowKit
set_option linter.unusedVariables false
set_option linter.unusedSimpArgs false
set_option maxRecDepth 100000
def sqi {α:Type} (F:Nat→Nat→α × Nat) (k:Nat):Nat→List α × Nat
 | 0=>([],k)
 | i+1=>((sqi F k i).1++[(F i (sqi F k i).2).1],(F i (sqi F k i).2).2)
theorem sqi_len {α:Type} (F:Nat→Nat→α × Nat) (k:Nat):∀ i,(sqi F k i).1.length=i
 | 0=>rfl
 | i+1=>by simp [sqi,sqi_len F k i]
theorem sqi_get {α:Type} {F:Nat→Nat→α × Nat} {k:Nat} {Q:Nat→α→Prop} {m:Nat} (h:∀ i q,i<m→Q i (F i q).1):∀ i,i≤m→∀ j x,(sqi F k i).1[j]?=some x→Q j x
 | 0,_,j,x,hx=>by simp [sqi] at hx
 | i+1,hi,j,x,hx=>by
   rcases get_snoc (show ((sqi F k i).1++[(F i (sqi F k i).2).1])[j]?=some x from hx) with hx | ⟨e,rfl⟩
   ·exact sqi_get h i (by omega) j x hx
   ·rw [sqi_len] at e
    subst e
    exact h j _ (by omega)
theorem infoMd:(Tryz.prog.info? 49).map (fun i=>(i.zero,i.size,i.bytes))=some (some (.agg #[.string ⟨#[]⟩,.slice none 0 0,.slice none 0 0,.slice none 0 0,.int .i64 0,.slice none 0 0,.slice none 0 0,.slice none 0 0]),8,168):=by kernel_rfl
theorem nmN_size:∀ q,(nmN q).size≤3
 | 0=>by decide
 | 1=>by decide
 | 2=>by decide
 | _+3=>(by decide:(⟨#[122,122]⟩:ByteArray).size≤3)
theorem exN_size:∀ q,(exN q).size≤2
 | 0=>by decide
 | 1=>by decide
 | 2=>by decide
 | 3=>by decide
 | _+4=>(by decide:(⟨#[98,100]⟩:ByteArray).size≤2)
def zPd:PMod:=⟨⟨#[]⟩,[],[],[],0,[],[],[]⟩
def impN (Ps:List PMod) (V:Int):ByteArray:=(Ps.getD (V % Ps.length).toNat zPd).nm++⟨#[46]⟩++(if 252≤V then ⟨#[98,100]⟩ else exN (V / 4 % ((Ps.getD (V % Ps.length).toNat zPd).bl.length+1)).toNat)
def impL (Ps:List PMod) (zs:List Int) (k j:Nat):List ByteArray:=(List.range j).map fun t=>impN Ps (zs.getD (k+t) 0)
theorem impL_succ (Ps:List PMod) (zs:List Int) (k j:Nat):impL Ps zs k (j+1)=impL Ps zs k j++[impN Ps (zs.getD (k+j) 0)]:=by simp [impL,List.range_succ]
theorem impL_len (Ps:List PMod) (zs:List Int) (k j:Nat):(impL Ps zs k j).length=j:=by simp [impL]
def PQ (Ps:List PMod) (zs:List Int) (k i j q:Nat):PMod:={ Ps.getD q zPd with ss:=impL Ps zs (k+3 * q) (if q<i then 3 else if q=i then j else 0) }
def MsP (w:World) (r:Nat) (a:Option Addr) (n c:Nat) (zs:List Int) (Ps:List PMod) (k':Nat) (e:Ending) (w':World):Prop:=∃ (g cap:Nat) (L:List (PMod × Ma)),e=.returned (.slice (some ⟨g,0,none⟩) Ps.length cap)∧Mst w w' r a n c zs k' (.slice (some ⟨g,0,none⟩) Ps.length cap) L∧L.map (fun x=>x.1)=Ps
def ModsFn (zs:List Int) (k:Nat) (Ps:List PMod) (k':Nat):Prop:=∀ (w:World) (r:Nat) (a:Option Addr) (n c:Nat) (h:Dst w w r a n c zs k),Calls Tryz.prog 135 #[.pointer (some ⟨r,0,none⟩)] w (MsP w r a n c zs Ps k')
theorem Mst.cell4 {w W w4:World} {r:Nat} {a:Option Addr} {n c:Nat} {zs:List Int} {k i g m cap:Nat} {L:List (PMod × Ma)} {y:PMod × Ma} (h:Mst w W r a n c zs k (.slice (some ⟨g,0,none⟩) m cap) L) (hy:L[i]?=some y) (hg:W.grownBy w4 (Value.slice y.2.a6 y.1.ss.length y.2.c6).ownBlock):w4.cell? ⟨g,i * 8+6,none⟩=some (.slice y.2.a6 y.1.ss.length y.2.c6)∧w4.frozen? ⟨g,i * 8+6,none⟩=false:=by
 obtain ⟨cs,b⟩:=own_kind h.o (k:=g) rfl
 have b4:=box_grown b (h.m i y hy).1.i hg (by decide)
 have c:=h.cells hy 6 (by omega) _ rfl
 rw [b.cell] at c
 exact ⟨by rw [b4.cell];exact c,b4.frozen _⟩
theorem PQ_step {Ps:List PMod} {zs:List Int} {k1 i j:Nat} {L:List (PMod × Ma)} {y:PMod × Ma} {s:ByteArray} {g4 c4:Nat} (hQ:∀ (q:Nat) (x:PMod × Ma),L[q]?=some x→x.1=PQ Ps zs k1 i j q) (hy:L[i]?=some y) (hs:s=impN Ps (zs.getD (k1+3 * i+j) 0)):
 ∀ (q:Nat) (x:PMod × Ma),(L.set i ({ y.1 with ss:=y.1.ss++[s] },{ y.2 with a6:=some ⟨g4,0,none⟩,c6:=c4 }))[q]?=some x→x.1=PQ Ps zs k1 i (j+1) q:=fun q x hx=>by
 rcases get_set hx with ⟨rfl,rfl⟩ | ⟨hne,hx⟩
 ·have e:=hQ q y hy
  show ({ y.1 with ss:=y.1.ss++[s] }:PMod)=_
  rw [e]
  unfold PQ
  simp only [Nat.lt_irrefl,if_false,if_true]
  rw [impL_succ,hs]
 ·rw [hQ q x hx]
  unfold PQ
  simp only [hne,if_false]
theorem PQ_next {Ps:List PMod} {zs:List Int} {k1 i q:Nat}:PQ Ps zs k1 i 3 q=PQ Ps zs k1 (i+1) 0 q:=by
 unfold PQ
 congr 2
 split
 ·rw [if_pos (by omega)]
 ·split
  ·rw [if_pos (by omega)]
  ·rw [if_neg (by omega)]
   split <;> rfl
set_option maxHeartbeats 8000000 in
theorem l4Modules_walk (zs:List Int) (hz:∀ j,0≤zs.getD j 0∧zs.getD j 0≤255) (k:Nat) (F:Nat→Nat→PMod × Nat) (HF:Hid (∀ i,i≤2→∀ q,ModFn zs q i (F i q).1 (F i q).2)) (HD:Hid (∀ i,i≤2→∀ q,DmR i (F i q).1)) (K:Int) (E1:Hid (zs.getD k 0=K)) (z0:0≤K) (z1:K≤255) (m:Nat) (hm:(m:Int)=1+K % 3) (Ps:List PMod) (k1:Nat) (HS:Hid (sqi F (k+1) m=(Ps,k1))):
 ModsFn zs k ((List.range m).map fun q=>PQ Ps zs k1 m 0 q) (k1+3 * m):=by
 intro w r a n c h
 obtain ⟨iM,hiM,hz0iM,hz1iM,hz2iM⟩:=info_parts infoMd
 obtain ⟨iT,hiT,hz0iT,hz1iT,hz2iT⟩:=info_parts infoT
 have HZ:=hide hz
 clear hz
 go_enter Tryz.func135,Tryz.ntmps135
 go_wp2_with fail
 refine (h.next K E1).mono ?_
 rintro e w1 ⟨rfl,D1,_⟩
 have hs1:=D1.sz
 have M0:Mst w (w1.alloc (.cells #[] 49)) r a n c zs (k+1) (.slice (some ⟨w1.heap.size,0,none⟩) 0 0) []:=⟨D1.below (al_below _ _),og_mk 49 8 clM w1 w.heap.size hs1 [] #[] rfl rfl (by unfold maxLen;simp),by simp,by simp,sep_nil⟩
 have HM0:=hide M0
 clear M0 h D1
 go_wp2
 go_loopw [4,5] (fun o i wr=>∃ (j:Nat) (L:List (PMod × Ma)),j≤m∧i=.int .i64 j∧Mst w wr r a n c zs (sqi F (k+1) j).2 o L∧L.map (fun x=>x.1)=(sqi F (k+1) j).1) (fun _ i _=>m - (intOf i).toNat)
 case atStart=>exact ⟨0,[],Nat.zero_le _,rfl,HM0.out,rfl⟩
 case round=>
  obtain ⟨j,L,hj,rfl,HM,hL⟩:=hrel
  generalize wr=wr1 at *
  clear HM0
  have hLl:L.length=j:=by have:=congrArg List.length hL;rw [List.length_map,sqi_len] at this;exact this
  have HLL:=hide hLl
  clear hLl
  by_cases hlt:j<m
  ·have hlt':(j:Int)<1+K % 3:=by omega
   have hL3:L.length≤3:=by have:=HLL.out;omega
   have CC:=hide (HF.out j (by omega) (sqi F (k+1) j).2 wr1 r a n c HM.d.fresh)
   have EK1:=hide (show (sqi F (k+1) (j+1)).1=L.map (fun x=>x.1)++[(F j (sqi F (k+1) j).2).1] by rw [hL];rfl)
   have EK2:=hide (show (sqi F (k+1) (j+1)).2=(F j (sqi F (k+1) j).2).2 from rfl)
   generalize (sqi F (k+1) j).2=kj at *
   obtain ⟨P,k',hx⟩:∃ x k',F j kj=(x,k'):=⟨_,_,rfl⟩
   rw [hx] at CC EK1 EK2
   dsimp only at CC EK1 EK2
   obtain ⟨av,cv,rfl⟩:=og_shape HM.o
   have HM:=hide HM
   clear hx hL HLL
   go_wp2_with fail
   refine CC.out.mono ?_
   rintro e wa ⟨M,rfl,da,mo,ds⟩
   have HMA:=hide ((HM.out.turn da.t (HM.out.d.trans da)).below (al_below wa (.cells (clM (P,M)).toArray 49)))
   have HOW:=hide HMA.out.o
   have HNW:=hide (cells_new wa _ 49 (clM (P,M)) rfl)
   have HSZ:=hide HMA.out.d.sz
   have HDA:=hide (And.intro da (And.intro mo ds))
   clear da mo ds CC
   unfold modV
   go_wp2_with (at_builtin;refine wpList_append_own _ rfl _ _ 23 rfl w.heap.size 49 iM _ 8 _ Tryz.underlying23 hiM hz0iM hz1iM hz2iM rfl (by decide) (.slice av L.length cv) L.length (L.flatMap clM) rfl HOW.out ⟨wa.heap.size,0,none⟩ 1 1 (clM (P,M)) rfl rfl HNW.out (by intro u hu;simp [clM] at hu;rcases hu with rfl | rfl | rfl | rfl | rfl | rfl | rfl | rfl <;> rfl) (by unfold maxLen;omega) (by omega) HSZ.out ?_;intro v' w4 hown hgr _)
   have HF':=hide (Mst.push (x:=(P,M)) HM.out HDA.out.1 HDA.out.2.1 HDA.out.2.2 hown hgr)
   clear HM HMA HOW HNW HSZ HDA hown hgr
   go_wp2
   go_roundw
   case rel=>exact ⟨j+1,_,by omega,by go_num,by rw [EK2.out];exact HF'.out,by rw [EK1.out,List.map_append];rfl⟩
   case measure=>simp [intOf];omega
  ·have hlt':¬ (j:Int)<1+K % 3:=by omega
   have ejm:j=m:=by omega
   rw [ejm,HS.out] at HM hL
   dsimp only at HM hL
   have hPl:Ps.length=m:=by have:=sqi_len F (k+1) m;rw [HS.out] at this;exact this
   obtain ⟨g,cap,rfl,_⟩:=World.ownsRow.form HM.o (by have:=HLL.out;omega)
   have hLm:L.length=m:=by have:=congrArg List.length hL;rw [List.length_map,hPl] at this;exact this
   have HQ0:=hide (show ∀ (q:Nat) (x:PMod × Ma),L[q]?=some x→x.1=PQ Ps zs k1 0 0 q from fun q x hx=>by
    have e1:Ps[q]?=some x.1:=by rw [← hL,List.getElem?_map,hx];rfl
    have e2:Ps.getD q zPd=x.1:=by rw [List.getD_eq_getElem?_getD,e1];rfl
    have e3:x.1.ss=[]:=by
     have hd:=sqi_get (F:=F) (k:=k+1) (Q:=DmR) (m:=m) (fun i q hi=>HD.out i (by omega) q) m (Nat.le_refl _) q x.1 (by rw [HS.out];exact e1)
     exact hd.i
    have e4:impL Ps zs (k1+3 * q) (if q<0 then 3 else if q=0 then 0 else 0)=[]:=by simp [impL]
    unfold PQ
    rw [e4,e2,← e3])
   have HPB:=hide (show ∀ q,(Ps.getD q zPd).bl.length≤3∧(Ps.getD q zPd).nm.size≤3 from fun q=>by
    rw [List.getD_eq_getElem?_getD]
    cases e:Ps[q]? with
    | none=>exact ⟨Nat.zero_le _,Nat.zero_le _⟩
    | some P=>
      have hd:=sqi_get (F:=F) (k:=k+1) (Q:=DmR) (m:=m) (fun i q hi=>HD.out i (by omega) q) m (Nat.le_refl _) q P (by rw [HS.out];exact e)
      exact ⟨hd.b.1,by show P.nm.size≤3;rw [hd.n];exact nmN_size q⟩)
   rw [hLm] at HM ⊢
   clear HLL
   have HM1:=hide HM
   have hm1:1≤m:=by omega
   have hm3:m≤3:=by omega
   have HLM:=hide hLm
   have HPL:=hide hPl
   clear hlt hj ejm HM hL hLm hPl HS HF HD E1 hm
   go_wp2
   go_loopw [6] (fun i wr=>∃ (i6:Nat) (L:List (PMod × Ma)),i6≤m∧i=.int .i64 i6∧Mst w wr r a n c zs (k1+3 * i6) (.slice (some ⟨g,0,none⟩) m cap) L∧L.length=m∧∀ (q:Nat) (x:PMod × Ma),L[q]?=some x→x.1=PQ Ps zs k1 i6 0 q) (fun i _=>m - (intOf i).toNat)
   case atStart=>exact ⟨0,L,Nat.zero_le _,rfl,HM1.out,HLM.out,HQ0.out⟩
   case round=>
    obtain ⟨i6,L6,hi6,rfl,HM6,hL6,hQ6⟩:=hrel
    generalize wr=wr6 at *
    clear HM1 HQ0 HLM
    by_cases hlt:i6<m
    ·have hlt':(i6:Int)<(m:Int):=by omega
     have HM6':=hide (And.intro HM6 (And.intro hL6 hQ6))
     clear HM6 hL6 hQ6
     go_wp2
     go_loopw [7] (fun i wr=>∃ (j:Nat) (L:List (PMod × Ma)),j≤3∧i=.int .i64 j∧Mst w wr r a n c zs (k1+3 * i6+j) (.slice (some ⟨g,0,none⟩) m cap) L∧L.length=m∧∀ (q:Nat) (x:PMod × Ma),L[q]?=some x→x.1=PQ Ps zs k1 i6 j q) (fun i _=>3 - (intOf i).toNat)
     case atStart=>exact ⟨0,L6,Nat.zero_le _,rfl,HM6'.out.1,HM6'.out.2.1,HM6'.out.2.2⟩
     case round=>
      obtain ⟨j,L,hj,rfl,HM,hLm,hQ⟩:=hrel
      generalize wr=wr7 at *
      clear HM6'
      by_cases hlt3:j<3
      ·have hlt3':(j:Int)<3:=by omega
       obtain ⟨V,EV,v0,v1⟩:=draw_of HZ.out (k1+3 * i6+j)
       have HM:=hide HM
       go_wp2_with fail
       refine (HM.out.next V EV).mono ?_
       rintro e wa ⟨rfl,MA⟩
       clear HM
       obtain ⟨t,ht⟩:∃ t:Nat,(t:Int)=V % (m:Int):=⟨(V % (m:Int)).toNat,by have:=Int.emod_nonneg V (show (m:Int)≠0 by omega);omega⟩
       have htm:t<m:=by have:=Int.emod_lt_of_pos V (show (0:Int)<(m:Int) by omega);omega
       obtain ⟨x,hx⟩:∃ x,L[t]?=some x:=⟨L[t]'(by omega),by rw [List.getElem?_eq_getElem]⟩
       have hvm:V.tmod (m:Int)=(t:Int):=by rw [Int.tmod_eq_emod_of_nonneg v0,ht]
       have c0:wa.cell? ⟨g,t * 8,none⟩=some (.string x.1.nm):=MA.cells hx 0 (by omega) _ rfl
       have c1:wa.cell? ⟨g,t * 8+1,none⟩=some (.slice x.2.a1 x.1.tz.length x.2.c1):=MA.cells hx 1 (by omega) _ rfl
       have c2:wa.cell? ⟨g,t * 8+2,none⟩=some (.slice x.2.a2 x.2.bl.length x.2.c2):=MA.cells hx 2 (by omega) _ rfl
       have c3:wa.cell? ⟨g,t * 8+3,none⟩=some (.slice x.2.a3 x.1.dz.length x.2.c3):=MA.cells hx 3 (by omega) _ rfl
       have c4:wa.cell? ⟨g,t * 8+4,none⟩=some (.int .i64 x.1.bss):=MA.cells hx 4 (by omega) _ rfl
       have c5:wa.cell? ⟨g,t * 8+5,none⟩=some (.slice x.2.a5 x.1.rz.length x.2.c5):=MA.cells hx 5 (by omega) _ rfl
       have c6:wa.cell? ⟨g,t * 8+6,none⟩=some (.slice x.2.a6 x.1.ss.length x.2.c6):=MA.cells hx 6 (by omega) _ rfl
       have c7:wa.cell? ⟨g,t * 8+7,none⟩=some (.slice x.2.a7 x.1.es.length x.2.c7):=MA.cells hx 7 (by omega) _ rfl
       have e1:x.1=PQ Ps zs k1 i6 j t:=hQ t x hx
       have hbl:x.2.bl.length=(Ps.getD t zPd).bl.length:=by
        have:=(MA.m t x hx).1.bls
        rw [← List.length_map (f:=fun B:Bk=>B.2.2.2),this,e1]
        rfl
       have hnm:x.1.nm=(Ps.getD t zPd).nm:=by rw [e1];rfl
       have hnb:x.2.bl.length≤3:=by rw [hbl];exact (HPB.out t).1
       have hns:x.1.nm.size≤3:=by rw [hnm];exact (HPB.out t).2
       obtain ⟨b,hb⟩:∃ b:Nat,V / 4 % ((x.2.bl.length:Int)+1)=(b:Int):=⟨(V / 4 % ((x.2.bl.length:Int)+1)).toNat,by have:=Int.emod_nonneg (V / 4) (show ((x.2.bl.length:Int)+1)≠0 by omega);omega⟩
       have hb3:b≤3:=by have:=Int.emod_lt_of_pos (V / 4) (show (0:Int)<((x.2.bl.length:Int)+1) by omega);omega
       have HI:=hide (show impN Ps V=x.1.nm++⟨#[46]⟩++(if 252≤V then ⟨#[98,100]⟩ else exN b) by
        unfold impN
        rw [HPL.out,← ht,Int.toNat_natCast,hnm,← hbl,hb,Int.toNat_natCast])
       obtain ⟨y,hy⟩:∃ y,L[i6]?=some y:=⟨L[i6]'(by omega),by rw [List.getElem?_eq_getElem]⟩
       have hyl:y.1.ss.length≤3:=by
        rw [hQ i6 y hy]
        unfold PQ
        simp only [Nat.lt_irrefl,if_false,if_true,impL_len]
        omega
       have hy:=hide hy
       have hMA:=hide (MA.below (al_below wa (.cells #[.string x.1.nm,.slice x.2.a1 x.1.tz.length x.2.c1,.slice x.2.a2 x.2.bl.length x.2.c2,.slice x.2.a3 x.1.dz.length x.2.c3,.int .i64 x.1.bss,.slice x.2.a5 x.1.rz.length x.2.c5,.slice x.2.a6 x.1.ss.length x.2.c6,.slice x.2.a7 x.1.es.length x.2.c7] 49)))
       have kb:=Blk.new wa #[.string x.1.nm,.slice x.2.a1 x.1.tz.length x.2.c1,.slice x.2.a2 x.2.bl.length x.2.c2,.slice x.2.a3 x.1.dz.length x.2.c3,.int .i64 x.1.bss,.slice x.2.a5 x.1.rz.length x.2.c5,.slice x.2.a6 x.1.ss.length x.2.c6,.slice x.2.a7 x.1.es.length x.2.c7] 49
       have hQ':=hide hQ
       have HLm:=hide hLm
       have htm':(t:Int)<(m:Int):=by omega
       have hm0:¬ (m:Int)=0:=by omega
       clear MA hQ hLm ht e1 hbl hnm
       go_wp2_with fail
       refine (l4Export_any ((b:Int) - 1) (by omega) (by omega) _).mono ?_
       rintro e wb ⟨rfl,hbb⟩
       rw [show ((b:Int) - 1+1).toNat=b by omega]
       have MB:=hMA.out.below hbb
       have kb1:wb.cell? ⟨wa.heap.size,0,none⟩=some (.string x.1.nm):=(kb.below hbb).cell 0
       clear hMA kb hbb c0 c1 c2 c3 c4 c5 c6 c7
       by_cases hv:252≤V
       ·have hv0:=hv
        obtain ⟨sv,hsv⟩:∃ sv,x.1.nm++⟨#[46]⟩++⟨#[98,100]⟩=sv:=⟨_,rfl⟩
        have HSV:=hide (show sv=impN Ps (zs.getD (k1+3 * i6+j) 0) by rw [EV.out,← hsv,HI.out];rw [if_pos hv])
        have HM1:=hide (MB.below (al_below wb (.cells #[.string sv] 9)))
        have HM2:=hide (MB.drew.below (al_below wb.drew (.cells #[.string sv] 9)))
        have HM3:=hide HM1.out.drew
        have HO3:=hide (HM3.out.m i6 y hy.out).1.i
        have d6b:(wb.alloc (.cells #[.string sv] 9)).cell? ⟨g,i6 * 8+6,none⟩=some (.slice y.2.a6 y.1.ss.length y.2.c6):=HM1.out.cells hy.out 6 (by omega) _ rfl
        have HO1:=hide (HM1.out.m i6 y hy.out).1.i
        have HO2:=hide (HM2.out.m i6 y hy.out).1.i
        have HN1:=hide (cells_new wb _ 9 (clT sv) rfl)
        have HN2:=hide (cells_new wb.drew _ 9 (clT sv) rfl)
        have hS1:=HM1.out.d.sz
        have hS2:=HM2.out.d.sz
        have d6:wb.cell? ⟨g,i6 * 8+6,none⟩=some (.slice y.2.a6 y.1.ss.length y.2.c6):=MB.cells hy.out 6 (by omega) _ rfl
        have hMB:=hide MB
        have hn1:¬ 9223372036854775807<x.1.nm.size+1:=by omega
        have hn2:¬ 9223372036854775807<x.1.nm.size+1+2:=by omega
        have hn3:¬ 9223372036854775807<x.1.nm.size+1+(exN b).size:=by have:=exN_size b;omega
        clear MB
        go_wp2_with fail
        go_region_law (first
         | (refine step_append_lies _ rfl _ _ 46 rfl w.heap.size 9 iT (.string ⟨#[]⟩) 1 16 Tryz.underlying46 hiT hz0iT hz1iT hz2iT rfl (by decide) (.slice y.2.a6 y.1.ss.length y.2.c6) y.1.ss.length (y.1.ss.flatMap clT) rfl (by first | exact HO1.out | exact HO2.out | exact HO3.out) ⟨wb.heap.size,0,none⟩ 1 1 (clT sv) rfl rfl (by first | exact HN1.out | exact HN2.out) (by intro u hu;simp [clT] at hu;subst hu;rfl) (by decide) (by unfold maxLen;omega) (by omega) (by first | exact hS1 | exact hS2) _ rfl ?_;intro g4 c4 w5 hown hgr hat hlt4;obtain ⟨p4,f4⟩:=(show _∧_ from (by first | exact HM1.out.cell4 hy.out hgr | exact HM2.out.cell4 hy.out hgr | exact HM3.out.cell4 hy.out hgr)))
         | (rw [hsv]))
        all_goals
         have HF:=hide (show Mst w (w5.setCell ⟨g,i6 * 8+6,none⟩ (.slice (some ⟨g4,0,none⟩) (y.1.ss.length+1) c4)) r a n c zs (k1+3 * i6+j+1) (.slice (some ⟨g,0,none⟩) m cap) _ from (by first | exact HM1.out.imp HLm.out hy.out hown hgr hat | exact HM2.out.imp HLm.out hy.out hown hgr hat | exact HM3.out.imp HLm.out hy.out hown hgr hat))
         clear HM1 HM2 HM3 HO1 HO2 HO3 HN1 HN2 d6 d6b hMB hown hgr hat hlt4 p4 f4 kb1 hn1 hn2 hn3
         go_wp2
         go_roundw
         case rel=>exact ⟨j+1,_,by omega,by go_num,HF.out,by rw [List.length_set];exact HLm.out,PQ_step hQ'.out hy.out HSV.out⟩
         case measure=>simp [intOf];omega
       ·have hv0:=hv
        obtain ⟨sv,hsv⟩:∃ sv,x.1.nm++⟨#[46]⟩++exN b=sv:=⟨_,rfl⟩
        have HSV:=hide (show sv=impN Ps (zs.getD (k1+3 * i6+j) 0) by rw [EV.out,← hsv,HI.out];rw [if_neg hv])
        have HM1:=hide (MB.below (al_below wb (.cells #[.string sv] 9)))
        have HM2:=hide (MB.drew.below (al_below wb.drew (.cells #[.string sv] 9)))
        have HM3:=hide HM1.out.drew
        have HO3:=hide (HM3.out.m i6 y hy.out).1.i
        have d6b:(wb.alloc (.cells #[.string sv] 9)).cell? ⟨g,i6 * 8+6,none⟩=some (.slice y.2.a6 y.1.ss.length y.2.c6):=HM1.out.cells hy.out 6 (by omega) _ rfl
        have HO1:=hide (HM1.out.m i6 y hy.out).1.i
        have HO2:=hide (HM2.out.m i6 y hy.out).1.i
        have HN1:=hide (cells_new wb _ 9 (clT sv) rfl)
        have HN2:=hide (cells_new wb.drew _ 9 (clT sv) rfl)
        have hS1:=HM1.out.d.sz
        have hS2:=HM2.out.d.sz
        have d6:wb.cell? ⟨g,i6 * 8+6,none⟩=some (.slice y.2.a6 y.1.ss.length y.2.c6):=MB.cells hy.out 6 (by omega) _ rfl
        have hMB:=hide MB
        have hn1:¬ 9223372036854775807<x.1.nm.size+1:=by omega
        have hn2:¬ 9223372036854775807<x.1.nm.size+1+2:=by omega
        have hn3:¬ 9223372036854775807<x.1.nm.size+1+(exN b).size:=by have:=exN_size b;omega
        clear MB
        go_wp2_with fail
        go_region_law (first
         | (refine step_append_lies _ rfl _ _ 46 rfl w.heap.size 9 iT (.string ⟨#[]⟩) 1 16 Tryz.underlying46 hiT hz0iT hz1iT hz2iT rfl (by decide) (.slice y.2.a6 y.1.ss.length y.2.c6) y.1.ss.length (y.1.ss.flatMap clT) rfl (by first | exact HO1.out | exact HO2.out | exact HO3.out) ⟨wb.heap.size,0,none⟩ 1 1 (clT sv) rfl rfl (by first | exact HN1.out | exact HN2.out) (by intro u hu;simp [clT] at hu;subst hu;rfl) (by decide) (by unfold maxLen;omega) (by omega) (by first | exact hS1 | exact hS2) _ rfl ?_;intro g4 c4 w5 hown hgr hat hlt4;obtain ⟨p4,f4⟩:=(show _∧_ from (by first | exact HM1.out.cell4 hy.out hgr | exact HM2.out.cell4 hy.out hgr | exact HM3.out.cell4 hy.out hgr)))
         | (rw [hsv]))
        all_goals
         have HF:=hide (show Mst w (w5.setCell ⟨g,i6 * 8+6,none⟩ (.slice (some ⟨g4,0,none⟩) (y.1.ss.length+1) c4)) r a n c zs (k1+3 * i6+j+1) (.slice (some ⟨g,0,none⟩) m cap) _ from (by first | exact HM1.out.imp HLm.out hy.out hown hgr hat | exact HM2.out.imp HLm.out hy.out hown hgr hat | exact HM3.out.imp HLm.out hy.out hown hgr hat))
         clear HM1 HM2 HM3 HO1 HO2 HO3 HN1 HN2 d6 d6b hMB hown hgr hat hlt4 p4 f4 kb1 hn1 hn2 hn3
         go_wp2
         go_roundw
         case rel=>exact ⟨j+1,_,by omega,by go_num,HF.out,by rw [List.length_set];exact HLm.out,PQ_step hQ'.out hy.out HSV.out⟩
         case measure=>simp [intOf];omega
      ·have hlt3':¬ (j:Int)<3:=by omega
       have ej:j=3:=by omega
       rw [ej] at HM hQ
       have HF:=hide (And.intro HM (And.intro hLm (show ∀ (q:Nat) (x:PMod × Ma),L[q]?=some x→x.1=PQ Ps zs k1 (i6+1) 0 q from fun q x hx=>by rw [← PQ_next];exact hQ q x hx)))
       clear HM hLm hQ ej
       go_wp2
       go_roundw
       case rel=>exact ⟨i6+1,L,by omega,by go_num,by have:=HF.out.1;rw [show k1+3 * i6+3=k1+3 * (i6+1) by omega] at this;exact this,HF.out.2.1,HF.out.2.2⟩
       case measure=>simp [intOf];omega
    ·have hlt':¬ (i6:Int)<(m:Int):=by omega
     have ei:i6=m:=by omega
     rw [ei] at HM6 hQ6
     have HF:=hide (And.intro HM6 (And.intro hL6 hQ6))
     clear HM6 hL6 hQ6
     go_wp2
     go_ret
     have hl:((List.range m).map fun q=>PQ Ps zs k1 m 0 q).length=m:=by simp
     refine ⟨g,cap,L6,by rw [hl];rfl,by rw [hl];exact HF.out.1,?_⟩
     apply List.ext_getElem?
     intro q
     rcases Nat.lt_or_ge q m with hq | hq
     ·obtain ⟨x,hx⟩:∃ x,L6[q]?=some x:=⟨L6[q]'(by rw [HF.out.2.1];exact hq),by rw [List.getElem?_eq_getElem]⟩
      rw [List.getElem?_map,hx,List.getElem?_map,List.getElem?_range hq]
      simp [HF.out.2.2 q x hx]
     ·rw [List.getElem?_eq_none (by simp [HF.out.2.1];exact hq),List.getElem?_eq_none (by simp;exact hq)]
structure DnR (P:PMod):Prop where
 n:P.nm.size≤3
 t:P.tz.length≤40∧∀ z ∈ P.tz,0≤z∧z≤4294967295
 b:P.bl.length≤3∧∀ l ∈ P.bl,l.length≤40∧∀ z ∈ l,0≤z∧z≤4294967295
 d:P.dz.length≤16∧Byt P.dz
 s:0≤P.bss∧P.bss≤63
 r:P.rz=[]∨P.rz=[0]
 i:P.ss.length≤3∧∀ s ∈ P.ss,s.size≤6
 e:P.es.length≤4∧∀ x ∈ P.es,x.1.size≤2∧-1≤x.2.1∧x.2.1≤3∧x.2.2=0
theorem l4Modules_fn (zs:List Int) (hz:∀ j,0≤zs.getD j 0∧zs.getD j 0≤255) (k:Nat):∃ y:List PMod × Nat,(1≤y.1.length∧y.1.length≤3∧∀ P ∈ y.1,DnR P)∧ModsFn zs k y.1 y.2:=by
 have hF:∀ p:Nat × Nat,∃ y:PMod × Nat,p.1≤2→DmR p.1 y.1∧ModFn zs p.2 p.1 y.1 y.2:=fun p=>by
  by_cases hp:p.1≤2
  ·obtain ⟨y,hy⟩:=l4Module_fn zs hz p.1 (by omega) p.2
   exact ⟨y,fun _=>hy⟩
  ·exact ⟨(zPd,0),fun h=>absurd h hp⟩
 obtain ⟨F,hF⟩:=Classical.axiomOfChoice hF
 obtain ⟨K,E1,z0,z1⟩:=draw_of hz k
 obtain ⟨m,hm⟩:∃ m:Nat,(m:Int)=1+K % 3:=⟨(1+K % 3).toNat,by omega⟩
 have hd:∀ i,i≤2→∀ q,DmR i ((fun i q=>F (i,q)) i q).1:=fun i hi q=>(hF (i,q) hi).1
 have hall:∀ q,DnR (PQ (sqi (fun i q=>F (i,q)) (k+1) m).1 zs (sqi (fun i q=>F (i,q)) (k+1) m).2 m 0 q):=fun q=>by
  have hs:∀ q,((sqi (fun i q=>F (i,q)) (k+1) m).1.getD q zPd).nm.size≤3:=fun q=>by
   rw [List.getD_eq_getElem?_getD]
   cases e:(sqi (fun i q=>F (i,q)) (k+1) m).1[q]? with
   | none=>exact Nat.zero_le _
   | some P=>
     have h:=sqi_get (F:=fun i q=>F (i,q)) (k:=k+1) (Q:=DmR) (m:=m) (fun i q hi=>hd i (by omega) q) m (Nat.le_refl _) q P e
     show P.nm.size≤3
     rw [h.n]
     exact nmN_size q
  have hi:(PQ (sqi (fun i q=>F (i,q)) (k+1) m).1 zs (sqi (fun i q=>F (i,q)) (k+1) m).2 m 0 q).ss.length≤3∧∀ s ∈ (PQ (sqi (fun i q=>F (i,q)) (k+1) m).1 zs (sqi (fun i q=>F (i,q)) (k+1) m).2 m 0 q).ss,s.size≤6:=by
   refine ⟨?_,fun s hs'=>?_⟩
   ·show (impL _ _ _ _).length≤3
    rw [impL_len]
    split
    ·omega
    ·split <;> omega
   ·have hs'':s ∈ impL (sqi (fun i q=>F (i,q)) (k+1) m).1 zs ((sqi (fun i q=>F (i,q)) (k+1) m).2+3 * q) (if q<m then 3 else if q=m then 0 else 0):=hs'
    unfold impL at hs''
    rw [List.mem_map] at hs''
    obtain ⟨t,_,rfl⟩:=hs''
    unfold impN
    rw [ByteArray.size_append,ByteArray.size_append]
    have h1:=hs (zs.getD ((sqi (fun i q=>F (i,q)) (k+1) m).2+3 * q+t) 0 % ((sqi (fun i q=>F (i,q)) (k+1) m).1.length:Int)).toNat
    have h2:∀ (b:Prop) [Decidable b] (x:Nat),(if b then (⟨#[98,100]⟩:ByteArray) else exN x).size≤2:=fun b _ x=>by
     split
     ·decide
     ·exact exN_size x
    have h3:=h2 (252≤zs.getD ((sqi (fun i q=>F (i,q)) (k+1) m).2+3 * q+t) 0) (zs.getD ((sqi (fun i q=>F (i,q)) (k+1) m).2+3 * q+t) 0 / 4 % (((sqi (fun i q=>F (i,q)) (k+1) m).1.getD (zs.getD ((sqi (fun i q=>F (i,q)) (k+1) m).2+3 * q+t) 0 % ((sqi (fun i q=>F (i,q)) (k+1) m).1.length:Int)).toNat zPd).bl.length+1)).toNat
    have h4:(⟨#[46]⟩:ByteArray).size=1:=rfl
    omega
  have key:∀ P:PMod,P=(sqi (fun i q=>F (i,q)) (k+1) m).1.getD q zPd→DnR { P with ss:=[] }:=fun P e=>by
   rw [List.getD_eq_getElem?_getD] at e
   cases e':(sqi (fun i q=>F (i,q)) (k+1) m).1[q]? with
   | none=>
     rw [e'] at e
     subst e
     exact ⟨by decide,⟨by simp [zPd],by simp [zPd]⟩,⟨by simp [zPd],by simp [zPd]⟩,⟨by simp [zPd],fun z hz=>by simp [zPd] at hz⟩,by simp [zPd],.inl rfl,by simp,⟨by simp [zPd],by simp [zPd]⟩⟩
   | some P'=>
     rw [e'] at e
     have e:P=P':=e
     subst e
     have h:=sqi_get (F:=fun i q=>F (i,q)) (k:=k+1) (Q:=DmR) (m:=m) (fun i q hi=>hd i (by omega) q) m (Nat.le_refl _) q P e'
     exact ⟨by show P.nm.size≤3;rw [h.n];exact nmN_size q,⟨h.t.1.2,h.t.2⟩,h.b,h.d,h.s,h.r,by simp,h.e⟩
  have h0:=key _ rfl
  exact ⟨h0.n,h0.t,h0.b,h0.d,h0.s,h0.r,hi,h0.e⟩
 refine ⟨(_,_),⟨?_,?_,?_⟩,l4Modules_walk zs hz k (fun i q=>F (i,q)) (hide (fun i hi q=>(hF (i,q) hi).2)) (hide hd) K E1 z0 z1 m hm _ _ (rfl:sqi (fun i q=>F (i,q)) (k+1) m=((sqi (fun i q=>F (i,q)) (k+1) m).1,(sqi (fun i q=>F (i,q)) (k+1) m).2))⟩
 ·simp;omega
 ·simp;omega
 ·intro P hP
  rw [List.mem_map] at hP
  obtain ⟨q,_,rfl⟩:=hP
  exact hall q
structure DoR (P:PMod):Prop where
 n:P.nm.size≤13
 t:P.tz.length≤201∧∀ z ∈ P.tz,-1≤z∧z≤4294967296
 b:P.bl.length≤5∧∀ l ∈ P.bl,l.length≤65∧∀ z ∈ l,0≤z∧z≤4294967295
 d:P.dz.length≤513∧Byt P.dz
 s:-1≤P.bss∧P.bss≤513
 r:P.rz.length≤2∧∀ z ∈ P.rz,-4≤z∧z≤512
 i:P.ss.length≤17∧∀ s ∈ P.ss,s.size≤6
 e:P.es.length≤17∧∀ x ∈ P.es,x.1.size≤2∧-2≤x.2.1∧x.2.1≤3∧0≤x.2.2∧x.2.2≤3
theorem DnR.dor {P:PMod} (h:DnR P):DoR P:=by
 refine ⟨by have:=h.n;omega,⟨by have:=h.t.1;omega,fun z hz=>by have:=h.t.2 z hz;omega⟩,⟨by have:=h.b.1;omega,fun l hl=>⟨by have:=(h.b.2 l hl).1;omega,(h.b.2 l hl).2⟩⟩,⟨by have:=h.d.1;omega,h.d.2⟩,by have:=h.s;omega,?_,⟨by have:=h.i.1;omega,h.i.2⟩,⟨by have:=h.e.1;omega,fun x hx=>by have:=h.e.2 x hx;omega⟩⟩
 rcases h.r with e | e <;> rw [e] <;> simp
def MoP (w:World) (r:Nat) (a:Option Addr) (n c:Nat) (zs:List Int) (P:PMod) (k':Nat) (e:Ending) (w':World):Prop:=∃ M:Ma,e=.returned (.agg (modV P M.a1 M.c1 M.a2 M.c2 M.bl M.a3 M.c3 M.a5 M.c5 M.a6 M.c6 M.a7 M.c7))∧Dst w w' r a n c zs k'∧MO w' w.heap.size P M∧∃ db,M.a3=some ⟨db,0,none⟩
def SpFn (zs:List Int) (k:Nat) (P P':PMod) (k':Nat):Prop:=∀ (w W:World) (r:Nat) (a:Option Addr) (n c:Nat) (M:Ma) (D:Dst w W r a n c zs k) (o:MO W w.heap.size P M) (ds:∃ db,M.a3=some ⟨db,0,none⟩),Calls Tryz.prog 136 #[.pointer (some ⟨r,0,none⟩),.agg #[.string P.nm,.slice M.a1 P.tz.length M.c1,.slice M.a2 M.bl.length M.c2,.slice M.a3 P.dz.length M.c3,.int .i64 P.bss,.slice M.a5 P.rz.length M.c5,.slice M.a6 P.ss.length M.c6,.slice M.a7 P.es.length M.c7]] W (MoP w r a n c zs P' k')
theorem MR.lay {w W:World} {r:Nat} {a:Option Addr} {n c:Nat} {zs:List Int} {k g q i:Nat} {P P':PMod} {M M':Ma} {v':Value} (h:MR w W r a n c zs k g q P M) (o:MO W w.heap.size P' M') (ds:∃ db,M'.a3=some ⟨db,0,none⟩) (e:(modV P M.a1 M.c1 M.a2 M.c2 M.bl M.a3 M.c3 M.a5 M.c5 M.a6 M.c6 M.a7 M.c7).setIfInBounds i v'=modV P' M'.a1 M'.c1 M'.a2 M'.c2 M'.bl M'.a3 M'.c3 M'.a5 M'.c5 M'.a6 M'.c6 M'.a7 M'.c7):MR w (W.setCell ⟨g,i,none⟩ v') r a n c zs k g q P' M':=
 ⟨MB.put h.m.d h.m.hg h.m.box o ds e,turn_blk (turn_set W g i v') h.res h.ne,h.hq,h.ne⟩
theorem OG.drew {α:Type} {t:TypeId} {sz:Nat} {f:α→List Value} {w:World} {base:Nat} {v:Value} {xs:List α} (h:OG t sz f w base v xs):OG t sz f w.drew base v xs:=h
def rowU (U:Nat→Prop) (a:Option Addr):Prop:=∀ j,(Value.slice a 0 0).ownBlock=some j→U j
theorem own_z (a:Option Addr) (n c:Nat):(Value.slice a n c).ownBlock=(Value.slice a 0 0).ownBlock:=by cases a <;> rfl
structure Ru (U:Nat→Prop) (M:Ma):Prop where
 t:rowU U M.a1
 b:rowU U M.a2
 r:rowU U M.a5
 i:rowU U M.a6
 e:rowU U M.a7
structure MRU (U:Nat→Prop) (W0 w W:World) (r:Nat) (a:Option Addr) (n c:Nat) (zs:List Int) (k g q:Nat) (P:PMod) (M:Ma):Prop extends MR w W r a n c zs k g q P M where
 u:Turn (fun j=>j=r∨U j) W0 W
 ug:U g
 uq:U q
 un:∀ j,W0.heap.size≤j→U j
 ur:Ru U M
theorem MRU.step {U:Nat→Prop} {W0 w W:World} {r:Nat} {a:Option Addr} {n c:Nat} {zs:List Int} {k g q:Nat} {P:PMod} {M:Ma} {W':World} {k':Nat} {P':PMod} {M':Ma} (h:MRU U W0 w W r a n c zs k g q P M) (h':MR w W' r a n c zs k' g q P' M') (t:Turn (fun j=>j=r∨U j) W W') (ur':Ru U M'):MRU U W0 w W' r a n c zs k' g q P' M':=⟨h',h.u.trans t,h.ug,h.uq,h.un,ur'⟩
theorem MRU.below {U:Nat→Prop} {W0 w W:World} {r:Nat} {a:Option Addr} {n c:Nat} {zs:List Int} {k g q:Nat} {P:PMod} {M:Ma} {W':World} (h:MRU U W0 w W r a n c zs k g q P M) (hb:Below W.heap.size W W'):MRU U W0 w W' r a n c zs k g q P M:=h.step (MR.below h.toMR hb) (turn_below hb) h.ur
theorem MRU.drew {U:Nat→Prop} {W0 w W:World} {r:Nat} {a:Option Addr} {n c:Nat} {zs:List Int} {k g q:Nat} {P:PMod} {M:Ma} (h:MRU U W0 w W r a n c zs k g q P M):MRU U W0 w W.drew r a n c zs k g q P M:=h.below (Below.refl _ _).drew
theorem MRU.next {U:Nat→Prop} {W0 w W:World} {r:Nat} {a:Option Addr} {n c:Nat} {zs:List Int} {k g q:Nat} {P:PMod} {M:Ma} (h:MRU U W0 w W r a n c zs k g q P M) (x:Int) (hx:Hid (zs.getD k 0=x)):
 Calls Tryz.prog 51 #[.pointer (some ⟨r,0,none⟩)] W fun e w'=>e=.returned (.int .i64 x)∧MRU U W0 w w' r a n c zs (k+1) g q P M:=
 (h.m.d.next x hx).mono fun e w' ⟨he,hd,ht⟩=>⟨he,h.step (MR.turn h.toMR ht hd) (ht.mono (fun j hj=>.inl hj)) h.ur⟩
theorem MRU.tgr {U:Nat→Prop} {W0 w W:World} {r:Nat} {a:Option Addr} {n c:Nat} {zs:List Int} {k g q:Nat} {P:PMod} {M:Ma} {w4:World} {A:Option Addr} {nn cc:Nat} (h:MRU U W0 w W r a n c zs k g q P M) (hA:rowU U A) (hg:W.grownBy w4 (Value.slice A nn cc).ownBlock) (i:Nat) (v:Value):Turn (fun j=>j=r∨U j) W (w4.setCell ⟨g,i,none⟩ v):=
 ((grown_trn hg).mono (fun j hj=>.inr (hA j (by rw [← own_z A nn cc];exact hj)))).trans ((turn_set w4 g i v).mono (fun j hj=>.inr (by subst hj;exact h.ug)))
theorem MRU.row4 {U:Nat→Prop} {W0 w W:World} {r:Nat} {a:Option Addr} {n c:Nat} {zs:List Int} {k g q:Nat} {P:PMod} {M:Ma} (h:MRU U W0 w W r a n c zs k g q P M) {A:Option Addr} {nn cc g4:Nat} (hA:rowU U A) (hat:(Value.slice A nn cc).ownBlock=some g4∨g4=W.heap.size):rowU U (some ⟨g4,0,none⟩):=fun j hj=>by
 injection hj with hj
 subst hj
 rcases hat with e | e
 ·exact hA _ (by rw [← own_z A nn cc];exact e)
 ·exact (show U g4 from h.un _ (by have:=h.u.size;omega))
theorem MRU.text {U:Nat→Prop} {W0 w W:World} {r:Nat} {a:Option Addr} {n c:Nat} {zs:List Int} {k g q:Nat} {P:PMod} {M:Ma} {w4:World} {g4 c4:Nat} {x:Int} (h:MRU U W0 w W r a n c zs k g q P M)
 (hown:w4.ownsRow w.heap.size 3 1 (.slice (some ⟨g4,0,none⟩) (P.tz.length+1) c4) (P.tz.length+1) (P.tz.flatMap clI++clI x)) (hg:W.grownBy w4 (Value.slice M.a1 P.tz.length M.c1).ownBlock) (hat:(Value.slice M.a1 P.tz.length M.c1).ownBlock=some g4∨g4=W.heap.size):
 MRU U W0 w (w4.setCell ⟨g,1,none⟩ (.slice (some ⟨g4,0,none⟩) (P.tz.length+1) c4)) r a n c zs k g q { P with tz:=P.tz++[x] } { M with a1:=some ⟨g4,0,none⟩,c1:=c4 }:=
 h.step (MR.text h.toMR hown hg hat) (h.tgr h.ur.t hg _ _) ⟨h.row4 h.ur.t hat,h.ur.b,h.ur.r,h.ur.i,h.ur.e⟩
theorem MRU.reloc {U:Nat→Prop} {W0 w W:World} {r:Nat} {a:Option Addr} {n c:Nat} {zs:List Int} {k g q:Nat} {P:PMod} {M:Ma} {w4:World} {g4 c4:Nat} {x:Int} (h:MRU U W0 w W r a n c zs k g q P M)
 (hown:w4.ownsRow w.heap.size 3 1 (.slice (some ⟨g4,0,none⟩) (P.rz.length+1) c4) (P.rz.length+1) (P.rz.flatMap clI++clI x)) (hg:W.grownBy w4 (Value.slice M.a5 P.rz.length M.c5).ownBlock) (hat:(Value.slice M.a5 P.rz.length M.c5).ownBlock=some g4∨g4=W.heap.size):
 MRU U W0 w (w4.setCell ⟨g,5,none⟩ (.slice (some ⟨g4,0,none⟩) (P.rz.length+1) c4)) r a n c zs k g q { P with rz:=P.rz++[x] } { M with a5:=some ⟨g4,0,none⟩,c5:=c4 }:=
 h.step (MR.reloc h.toMR hown hg hat) (h.tgr h.ur.r hg _ _) ⟨h.ur.t,h.ur.b,h.row4 h.ur.r hat,h.ur.i,h.ur.e⟩
theorem MRU.imp {U:Nat→Prop} {W0 w W:World} {r:Nat} {a:Option Addr} {n c:Nat} {zs:List Int} {k g q:Nat} {P:PMod} {M:Ma} {w4:World} {g4 c4:Nat} {x:ByteArray} (h:MRU U W0 w W r a n c zs k g q P M)
 (hown:w4.ownsRow w.heap.size 9 1 (.slice (some ⟨g4,0,none⟩) (P.ss.length+1) c4) (P.ss.length+1) (P.ss.flatMap clT++clT x)) (hg:W.grownBy w4 (Value.slice M.a6 P.ss.length M.c6).ownBlock) (hat:(Value.slice M.a6 P.ss.length M.c6).ownBlock=some g4∨g4=W.heap.size):
 MRU U W0 w (w4.setCell ⟨g,6,none⟩ (.slice (some ⟨g4,0,none⟩) (P.ss.length+1) c4)) r a n c zs k g q { P with ss:=P.ss++[x] } { M with a6:=some ⟨g4,0,none⟩,c6:=c4 }:=
 h.step (MR.imp h.toMR hown hg) (h.tgr h.ur.i hg _ _) ⟨h.ur.t,h.ur.b,h.ur.r,h.row4 h.ur.i hat,h.ur.e⟩
theorem MRU.exp {U:Nat→Prop} {W0 w W:World} {r:Nat} {a:Option Addr} {n c:Nat} {zs:List Int} {k g q:Nat} {P:PMod} {M:Ma} {w4:World} {g4 c4:Nat} {x:Ex} (h:MRU U W0 w W r a n c zs k g q P M)
 (hown:w4.ownsRow w.heap.size 210 3 (.slice (some ⟨g4,0,none⟩) (P.es.length+1) c4) (P.es.length+1) (P.es.flatMap clX++clX x)) (hg:W.grownBy w4 (Value.slice M.a7 P.es.length M.c7).ownBlock) (hat:(Value.slice M.a7 P.es.length M.c7).ownBlock=some g4∨g4=W.heap.size):
 MRU U W0 w (w4.setCell ⟨g,7,none⟩ (.slice (some ⟨g4,0,none⟩) (P.es.length+1) c4)) r a n c zs k g q { P with es:=P.es++[x] } { M with a7:=some ⟨g4,0,none⟩,c7:=c4 }:=
 h.step (MR.exp h.toMR hown hg) (h.tgr h.ur.e hg _ _) ⟨h.ur.t,h.ur.b,h.ur.r,h.ur.i,h.row4 h.ur.e hat⟩
def SpU (zs:List Int) (k:Nat) (P P':PMod) (k':Nat):Prop:=∀ (U:Nat→Prop) (w W:World) (r:Nat) (a:Option Addr) (n c:Nat) (M:Ma) (D:Dst w W r a n c zs k) (o:MO W w.heap.size P M) (ds:∃ db,M.a3=some ⟨db,0,none⟩) (hU:∀ j,W.heap.size≤j→U j) (hR:Ru U M),Calls Tryz.prog 136 #[.pointer (some ⟨r,0,none⟩),.agg #[.string P.nm,.slice M.a1 P.tz.length M.c1,.slice M.a2 M.bl.length M.c2,.slice M.a3 P.dz.length M.c3,.int .i64 P.bss,.slice M.a5 P.rz.length M.c5,.slice M.a6 P.ss.length M.c6,.slice M.a7 P.es.length M.c7]] W (fun e w'=>MoP w r a n c zs P' k' e w'∧Turn (fun j=>j=r∨U j) W w')
theorem SpU.fn {zs:List Int} {k:Nat} {P P':PMod} {k':Nat} (h:SpU zs k P P' k'):SpFn zs k P P' k':=fun w W r a n c M D o ds=>(h (fun _=>True) w W r a n c M D o ds (fun _ _=>trivial) ⟨fun _ _=>trivial,fun _ _=>trivial,fun _ _=>trivial,fun _ _=>trivial,fun _ _=>trivial⟩).mono fun e w' h=>h.1
structure Mq (w W:World) (r:Nat) (a:Option Addr) (n c:Nat) (zs:List Int) (k:Nat) (v:Value) (L:List (PMod × Ma)):Prop where
 d:Dst w W r a n c zs k
 o:OG 49 8 clM W w.heap.size v L
 m:∀ (i:Nat) (x:PMod × Ma),L[i]?=some x→MO W w.heap.size x.1 x.2∧DoR x.1
 hl:L.length≤5
theorem Mq.below {w W W':World} {r:Nat} {a:Option Addr} {n c:Nat} {zs:List Int} {k:Nat} {v:Value} {L:List (PMod × Ma)} (h:Mq w W r a n c zs k v L) (hb:Below W.heap.size W W'):Mq w W' r a n c zs k v L:=⟨h.d.below hb,h.o.below hb,fun i x hx=>⟨(h.m i x hx).1.below hb,(h.m i x hx).2⟩,h.hl⟩
theorem Mq.turn {w W W':World} {r:Nat} {a:Option Addr} {n c:Nat} {zs:List Int} {k k':Nat} {v:Value} {L:List (PMod × Ma)} (h:Mq w W r a n c zs k v L) (ht:Turn (fun j=>j=r) W W') (d:Dst w W' r a n c zs k'):Mq w W' r a n c zs k' v L:=
 ⟨d,h.o.turn ht (fun j hj=>by have:=h.d.lt;omega),fun i x hx=>⟨(h.m i x hx).1.kept ht (fun j hj=>.inl (by subst hj;exact h.d.lt)),(h.m i x hx).2⟩,h.hl⟩
theorem Mq.of {w W W2:World} {r:Nat} {a:Option Addr} {n c:Nat} {zs:List Int} {k k':Nat} {v:Value} {L:List (PMod × Ma)} (D:Dst w W r a n c zs k) (h:Mst W W2 r a n c zs k' v L) (hP:∀ (i:Nat) (x:PMod × Ma),L[i]?=some x→DnR x.1) (hl:L.length≤5):Mq w W2 r a n c zs k' v L:=
 ⟨D.trans h.d,h.o.mono D.sz,fun i x hx=>⟨(h.m i x hx).1.mono D.sz,(hP i x hx).dor⟩,hl⟩
theorem og_cell8 {W:World} {base i g m cap:Nat} {L:List (PMod × Ma)} {x:PMod × Ma} (h:OG 49 8 clM W base (.slice (some ⟨g,0,none⟩) m cap) L) (hx:L[i]?=some x) (j:Nat) (hj:j<8) (u:Value) (hu:(clM x)[j]?=some u):W.cell? ⟨g,i * 8+j,none⟩=some u:=by
 obtain ⟨hl,h0 | ⟨g',cap',cur,hv,hg,hh,h1,h2,h3,h4⟩⟩:=h
 ·simp at h0
 ·simp only [Value.slice.injEq,Option.some.injEq,Addr.mk.injEq,and_true,true_and] at hv
  obtain ⟨rfl,rfl,rfl⟩:=hv
  have hb:Blk W g cur 49:=hh
  rw [hb.cell]
  have e:=flat_get8 L i x hx j hj
  have hi:i<L.length:=by rcases Nat.lt_or_ge i L.length with h | h;exact h;rw [List.getElem?_eq_none h] at hx;simp at hx
  rw [← h4,List.getElem?_take,if_pos (by omega),hu] at e
  rw [← e]
  simp
theorem Mq.cells {w W:World} {r:Nat} {a:Option Addr} {n c:Nat} {zs:List Int} {k i g m cap:Nat} {L:List (PMod × Ma)} {x:PMod × Ma} (h:Mq w W r a n c zs k (.slice (some ⟨g,0,none⟩) m cap) L) (hx:L[i]?=some x) (j:Nat) (hj:j<8) (u:Value) (hu:(clM x)[j]?=some u):W.cell? ⟨g,i * 8+j,none⟩=some u:=og_cell8 h.o hx j hj u hu
theorem MO.rb_kind {W:World} {base:Nat} {x:PMod × Ma} (h:MO W base x.1 x.2) (b:Nat) (hb:rb x b):∃ cs t,Blk W b cs t∧t≠9∧t≠5∧t≠49:=by
 rcases hb with e | e | e | e | ⟨B,hB,e⟩
 ·obtain ⟨cs,k⟩:=own_kind h.t e;exact ⟨cs,_,k,by decide,by decide,by decide⟩
 ·obtain ⟨cs,k⟩:=own_kind h.b.head e;exact ⟨cs,_,k,by decide,by decide,by decide⟩
 ·obtain ⟨cs,k⟩:=own_kind h.r e;exact ⟨cs,_,k,by decide,by decide,by decide⟩
 ·obtain ⟨cs,k⟩:=own_kind h.e e;exact ⟨cs,_,k,by decide,by decide,by decide⟩
 ·obtain ⟨cs,k⟩:=own_kind (h.b.rows B hB).2 e;exact ⟨cs,_,k,by decide,by decide,by decide⟩
theorem row_keep {S:Nat→Prop} {W W':World} {base:Nat} {t:TypeId} {sz n:Nat} {v:Value} {xs:List Value} (ho:W.ownsRow base t sz v n xs) (ht:Turn S W W') (hk:∀ k,v.ownBlock=some k→¬ S k):W'.ownsRow base t sz v n xs:=by
 obtain ⟨hl,h0 | ⟨g,cap,cur,hv,hg,hh,h1,h2,h3,h4⟩⟩:=ho
 ·exact ⟨hl,.inl h0⟩
 ·exact ⟨hl,.inr ⟨g,cap,cur,hv,hg,turn_blk (w:=W) ht hh (hk g (by rw [hv];rfl)),h1,h2,h3,h4⟩⟩
theorem MO.keep {S:Nat→Prop} {W W':World} {base:Nat} {x:PMod × Ma} (h:MO W base x.1 x.2) (ht:Turn S W W') (h1:∀ b,rb x b→¬ S b) (h3:∀ b,(Value.slice x.2.a3 x.1.dz.length x.2.c3).ownBlock=some b→¬ S b) (h6:∀ b,own6 x=some b→¬ S b):MO W' base x.1 x.2:=
 ⟨row_keep h.t ht (fun b e=>h1 b (.inl e)),⟨row_keep h.b.head ht (fun b e=>h1 b (.inr (.inl e))),fun B hB=>⟨(h.b.rows B hB).1,row_keep (h.b.rows B hB).2 ht (fun b e=>h1 b (.inr (.inr (.inr (.inr ⟨B,hB,e⟩)))))⟩,h.b.apart⟩,h.bls,⟨row_keep h.d.1 ht h3,h.d.2⟩,row_keep h.r ht (fun b e=>h1 b (.inr (.inr (.inl e)))),row_keep h.i ht h6,row_keep h.e ht (fun b e=>h1 b (.inr (.inr (.inr (.inl e))))),h.tb,h.tr,h.br⟩
def spU (W:World) (x:PMod × Ma) (j:Nat):Prop:=W.heap.size≤j∨rb x j∨own6 x=some j
theorem Mst.row {w W W':World} {r:Nat} {a:Option Addr} {n c:Nat} {zs:List Int} {k:Nat} {v:Value} {L:List (PMod × Ma)} {x:PMod × Ma} (h:Mst w W r a n c zs k v L) (hx:L[0]?=some x) (ht:Turn (fun j=>j=r∨spU W x j) W W'):OG 49 8 clM W' w.heap.size v L:=by
 have mx:=(h.m 0 x hx).1
 have hr:=h.d.lt
 refine row_keep h.o ht (fun b hb s=>?_)
 have h1:=h.o.lt b hb
 obtain ⟨cs,kb⟩:=own_kind h.o hb
 rcases s with s | s | s | s
 ·omega
 ·omega
 ·obtain ⟨cs',t',k',n1,n2,n3⟩:=mx.rb_kind _ s
  exact n3 (blk_kind k' kb)
 ·obtain ⟨cs',k'⟩:=own_kind mx.i s
  exact absurd (blk_kind k' kb) (by decide)
theorem Mq.push {w W w' wa:World} {r:Nat} {a:Option Addr} {n c:Nat} {zs:List Int} {k:Nat} {v v':Value} {L:List (PMod × Ma)} {x:PMod × Ma} (h:Mq w wa r a n c zs k v L) (mo:MO wa w.heap.size x.1 x.2) (X:DoR x.1) (hl:L.length≤4)
 (hown:w'.ownsRow w.heap.size 49 8 v' (L.length+1) (L.flatMap clM++clM x)) (hg:wa.grownBy w' v.ownBlock):Mq w w' r a n c zs k v' (L++[x]):=by
 refine ⟨h.d.grown hg (fun j hj=>(h.o.lt j hj).1),?_,fun i y hy=>?_,by simp;omega⟩
 ·unfold OG
  rw [List.length_append,List.flatMap_append]
  simpa using hown
 ·rcases get_snoc hy with hy | ⟨_,rfl⟩
  ·exact ⟨(h.m i y hy).1.grownM h.o hg,(h.m i y hy).2⟩
  ·exact ⟨mo.grownM h.o hg,X⟩
theorem Mq.nil {w W:World} {r:Nat} {a:Option Addr} {n c:Nat} {zs:List Int} {k g m cap:Nat} {L:List (PMod × Ma)} (h:Mq w W r a n c zs k (.slice (some ⟨g,0,Option.none⟩) m cap) L):Mq w W r a n c zs k (.slice (some ⟨g,0,Option.none⟩) 0 cap) []:=by
 refine ⟨h.d,?_,fun i x hx=>by simp at hx,by simp⟩
 obtain ⟨hl,h0 | ⟨g',cap',cur,hv,hg,hh,h1,h2,h3,h4⟩⟩:=h.o
 ·simp at h0
 ·simp only [Value.slice.injEq,Option.some.injEq,Addr.mk.injEq,and_true,true_and] at hv
  obtain ⟨rfl,rfl,rfl⟩:=hv
  exact ⟨rfl,.inr ⟨g,cap,cur,rfl,hg,hh,Nat.zero_le _,h2,h3,by simp⟩⟩
end Go.Proofs.YtngdgogjlpjjpadGreat
