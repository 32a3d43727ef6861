import Derived.Maps.AppendAt
import Derived.Deep.AppendLies
import Derived.Deep.OwnRows
import Derived.Deep.RegionLaw
import Derived.Laws.BitsLemmas
import Derived.Laws.IdiomStrings
import Derived.Lib.Bytealg
import Derived.Maps.OwnSet
import Derived.WideShapes
import Derived.Test.YtngdgogjlpjjpadGreatP00
import Derived.Test.YtngdgogjlpjjpadGreatP01
import Derived.Test.YtngdgogjlpjjpadGreatP02
namespace Go.Proofs.YtngdgogjlpjjpadGreat
open Go.RowKit
set_option linter.unusedVariables false
def upB (rs:List Rg) (a k:Int) (n m:Nat):Bool:=(List.range m).all fun i=>oneTo rs (wrap64 (a+i)) k n
def okB (rs:List Rg) (m:Nat):Bool:=(List.range m).all fun i=>gok (rs.getD i z6)
def upTo (rs:List Rg) (a k:Int) (n m:Nat):Prop:=∀ i,i<m→oneTo rs (wrap64 (a+i)) k n=true
def okTo (rs:List Rg) (m:Nat):Prop:=∀ i,i<m→gok (rs.getD i z6)=true
theorem okB_iff {rs:List Rg} {m:Nat}:okB rs m=true ↔ okTo rs m:=by simp [okB,okTo]
theorem upB_iff {rs:List Rg} {a k:Int} {n m:Nat}:upB rs a k n m=true ↔ upTo rs a k n m:=by simp [upB,upTo]
theorem okB_false {rs:List Rg} {n j:Nat} (hj:j<n) (h:gok (rs.getD j z6)=false):okB rs n=false:=by
 cases e:okB rs n
 ·rfl
 ·have:=okB_iff.1 e j hj;rw [h] at this;simp at this
theorem upB_false {rs:List Rg} {a k:Int} {n m j:Nat} (hj:j<m) (h:oneTo rs (wrap64 (a+j)) k n=false):upB rs a k n m=false:=by
 cases e:upB rs a k n m
 ·rfl
 ·have:=upB_iff.1 e j hj;rw [h] at this;simp at this
theorem okTo_all {rs:List Rg} {n:Nat} (hl:rs.length=n) (h:okTo rs n):∀ g ∈ rs,gok g=true:=by
 intro g hg
 obtain ⟨i,hi,rfl⟩:=List.getElem_of_mem hg
 have:=h i (by omega)
 simpa [List.getD_eq_getElem?_getD,hi] using this
theorem okTo_succ {rs:List Rg} {j:Nat} (h:okTo rs j) (hg:gok (rs.getD j z6)=true):okTo rs (j+1):=by
 intro i hi
 by_cases e:i=j
 ·subst e;exact hg
 ·exact h i (by omega)
theorem upTo_succ {rs:List Rg} {a k:Int} {n j:Nat} (h:upTo rs a k n j) (hg:oneTo rs (wrap64 (a+j)) k n=true):upTo rs a k n (j+1):=by
 intro i hi
 by_cases e:i=j
 ·subst e;exact hg
 ·exact h i (by omega)
theorem wfl {z:Int} (h:wfi z):(Lit.int .i64 z).wf=true:=by
 obtain ⟨h0,h1⟩:=h
 simp [Lit.wf,IntKind.min,IntKind.max,IntKind.signed,IntKind.bits]
 omega
theorem wrap_wfi (z:Int):wfi (wrap64 z):=by
 unfold wfi wrap64
 omega
def alw (rs:List Rg) (n:Nat) (a s k:Int):Bool:=decide (n≤8) && (wd s && (okB rs n && upB rs a k n s.toNat))
structure Cov (g:Rg) (a c:Int):Prop where
 ok:gok g=true
 bits:g.2.2.2=(false,false,false)
 pos:32≤c
 c32:c % 32=0
 a32:a % 32=0
 has:∀ x,ghas g x=decide (a≤x∧x<a+c)
def Chain:List Rg→Int→Int→Prop
 | [],a,e=>a=e
 | g :: r,a,e=>∃ c,Cov g a c∧Chain r (a+c) e
theorem run_bit:∀ i0,i0<8→∀ j,j<9→i0+j≤8→∀ p,p<8→((255 - runq i0 j) / 2 ^ p % 2=0 ↔ (i0≤p∧p<i0+j)):=by decide +kernel
theorem has_cov (a en b l:Int) (q:Nat) (ha:0≤a) (hae:a<en) (hen:en≤262144) (ha32:a % 32=0) (hl:5≤l) (hl2:l≤14) (hq:q<256) (hc:32≤cnt l q) (hc32:cnt l q % 32=0) (hb:b=baseOf a l) (hqo:q=qOf a en l):
 Cov (b,l,255 - (q:Int),false,false,false) a (cnt l q):=by
 obtain ⟨P,hP⟩:∃ P,(2:Int)^(l - 3).toNat=P:=⟨_,rfl⟩
 obtain ⟨N,hN⟩:∃ N,(2:Int)^l.toNat=N:=⟨_,rfl⟩
 obtain ⟨g1,g2,g3,g4,g5,g6,g7⟩:=parts a l P N hl hl2 hP hN ha (by omega)
 obtain ⟨b0,b1,b2,b3,b4⟩:=base_ok a l N hl hl2 hN ha (by omega)
 have hbo:b=a - a % N:=by rw [hb];unfold baseOf;rw [hN]
 rw [← hbo] at b0 b1 b2
 by_cases h8:l<8
 ·have hq255:a % N=0∧a+N≤en∧q=255:=by
   unfold qOf at hqo
   rw [if_pos h8,hN] at hqo
   split at hqo
   ·next h=>exact ⟨h.1,h.2,hqo⟩
   ·subst hqo
    rw [cnt_zero] at hc
    omega
  obtain ⟨h1,h2,rfl⟩:=hq255
  have e2:cnt l 255=N:=by unfold cnt;rw [hP,show popc 255=8 from rfl,g1];rfl
  have hab:b=a:=by omega
  refine ⟨?_,rfl,hc,hc32,ha32,?_⟩
  ·show rok b l (255 - ((255:Nat):Int))=true
   unfold rok
   rw [hN]
   simp
   omega
  ·intro x
   show hs b l (255 - ((255:Nat):Int)) x=_
   unfold hs
   rw [hN,e2,hab]
   simp
 ·have hq':a % P=0∧q=runq (i0Of a l) (jOf a en l):=by
   unfold qOf at hqo
   rw [if_neg h8,hP] at hqo
   split at hqo
   ·next h=>exact ⟨h,hqo⟩
   ·subst hqo
    rw [cnt_zero] at hc
    omega
  obtain ⟨hm,hqq⟩:=hq'
  have hj:i0Of a l+jOf a en l≤8:=by unfold jOf;omega
  have e2:cnt l q=(jOf a en l:Int) * P:=by rw [hqq];exact cnt_run l P hP _ _ g5 hj
  have hai:=g6 hm
  refine ⟨?_,rfl,hc,hc32,ha32,?_⟩
  ·show rok b l (255 - (q:Int))=true
   unfold rok
   rw [hN]
   simp
   omega
  ·intro x
   show hs b l (255 - (q:Int)) x=_
   unfold hs
   rw [hN]
   rw [e2]
   generalize i0Of a l=i0 at *
   generalize jOf a en l=j at *
   rw [Bool.eq_iff_iff]
   simp only [decide_eq_true_eq]
   have hN8:N / 8=P:=by omega
   rw [hN8]
   have hP0:0<P:=by omega
   constructor
   ·rintro ⟨x1,x2,x3⟩
    have p0:0≤(x - b) / P:=Int.ediv_nonneg (by omega) (by omega)
    have p8:(x - b) / P<8:=Int.ediv_lt_of_lt_mul hP0 (by omega)
    obtain ⟨p,hp⟩:=Int.eq_ofNat_of_zero_le p0
    rw [hp] at x3 p8
    have x3':(255 - q) / 2 ^ p % 2=0:=by
     have e:(255 - (q:Int))=((255 - q:Nat):Int):=by omega
     rw [e] at x3
     have:(((255 - q) / 2 ^ p % 2:Nat):Int)=0:=by
      rw [← x3]
      simp
     omega
    rw [hqq] at x3'
    obtain ⟨y1,y2⟩:=(run_bit i0 g5 j (by omega) hj p (by omega)).1 x3'
    have z1:(i0:Int) * P≤x - b:=Int.le_trans (Int.mul_le_mul_of_nonneg_right (show (i0:Int)≤(x - b) / P by omega) (by omega)) (Int.ediv_mul_le _ (by omega))
    have z2:x - b<((i0:Int)+j) * P:=by
     have h1:(x - b)<((x - b) / P+1) * P:=Int.lt_ediv_add_one_mul_self _ hP0
     have h2:((x - b) / P+1) * P≤((i0:Int)+j) * P:=Int.mul_le_mul_of_nonneg_right (by omega) (by omega)
     omega
    rw [Int.add_mul] at z2
    omega
   ·rintro ⟨x1,x2⟩
    have z1:(i0:Int) * P≤x - b:=by omega
    have z2:x - b<((i0:Int)+j) * P:=by rw [Int.add_mul];omega
    have y1:(i0:Int)≤(x - b) / P:=Int.le_ediv_of_mul_le hP0 z1
    have y2:(x - b) / P<(i0:Int)+j:=Int.ediv_lt_of_lt_mul hP0 z2
    obtain ⟨p,hp⟩:=Int.eq_ofNat_of_zero_le (show 0≤(x - b) / P by omega)
    have z3:((i0:Int)+j) * P≤8 * P:=Int.mul_le_mul_of_nonneg_right (by omega) (by omega)
    have i0P:0≤(i0:Int) * P:=Int.mul_nonneg (by omega) (by omega)
    refine ⟨by omega,by omega,?_⟩
    rw [hp]
    have x3':=(run_bit i0 g5 j (by omega) hj p (by omega)).2 ⟨by omega,by omega⟩
    rw [← hqq] at x3'
    have e:(255 - (q:Int))=((255 - q:Nat):Int):=by omega
    rw [e]
    have:(((255 - q) / 2 ^ p % 2:Nat):Int)=0:=by omega
    rw [← this]
    simp
theorem cvList_chain (en:Int) (hen:en≤262144) (he32:en % 32=0):∀ (n:Nat) (a:Int),0≤a→a≤en→a % 32=0→en - a≤32 * (n:Int)→Chain (cvList en n a) a en
 | 0,a,h0,h1,h2,h3=>by
   show a=en
   omega
 | n+1,a,h0,h1,h2,h3=>by
   by_cases hlt:a<en
   ·obtain ⟨b,l,q,hF,hl,hl2,hq,hc1,hc2,hc3,hb,hqo⟩:=chosen a en h0 hlt hen h2 he32
    rw [cvList_step en n a b l q hlt hF]
    refine ⟨cnt l q,has_cov a en b l q h0 hlt hen h2 hl hl2 hq hc1 hc3 hb hqo,?_⟩
    exact cvList_chain en hen he32 n (a+cnt l q) (by omega) hc2 (by omega) (by omega)
   ·rw [cvList_end en (n+1) a hlt]
    show a=en
    omega
theorem chain_le:∀ (L:List Rg) (a e:Int),Chain L a e→a≤e
 | [],a,e,h=>by rw [show a=e from h];exact Int.le_refl _
 | g :: r,a,e,h=>by
   obtain ⟨c,hc,hr⟩:=h
   have:=chain_le r _ _ hr
   have:=hc.pos
   omega
theorem chain_has:∀ (L:List Rg) (a e:Int),Chain L a e→∀ x,((∃ g ∈ L,ghas g x=true) ↔ (a≤x∧x<e))
 | [],a,e,h,x=>by
   have:a=e:=h
   subst this
   simp
 | g :: r,a,e,h,x=>by
   obtain ⟨c,hc,hr⟩:=h
   have ih:=chain_has r _ _ hr x
   have hle:=chain_le r _ _ hr
   have hp:=hc.pos
   have hx:=hc.has x
   constructor
   ·rintro ⟨y,hy,hyx⟩
    rcases List.mem_cons.1 hy with rfl | hy
    ·rw [hx] at hyx
     simp at hyx
     omega
    ·have:=ih.1 ⟨y,hy,hyx⟩
     omega
   ·intro hxx
    by_cases hin:x<a+c
    ·exact ⟨g,by simp,by rw [hx];simp;omega⟩
    ·obtain ⟨y,hy,hyx⟩:=ih.2 (by omega)
     exact ⟨y,by simp [hy],hyx⟩
def BePost (w:World) (b l c:Int) (q:Nat) (e:Ending) (w':World):Prop:=
 ∃ o:Int,e=.returned (.tuple #[.agg #[.int .i64 b,.int .i64 l,.int .i64 o,.bool false,.bool false,.bool false],.int .i64 c])∧(0<c→o=255 - (q:Int))∧Below w.heap.size w w'
theorem be_end (w W:World) (tmps:Array Value) (b l o c:Int) (q:Nat) (h6:tmps[6]?=some (.pointer (some ⟨w.heap.size,0,none⟩))) (h7:tmps[7]?=some (.int .i64 c))
 (hz:Blk W w.heap.size #[.int .i64 b,.int .i64 l,.int .i64 o,.bool false,.bool false,.bool false] 135) (hB:Below w.heap.size w W) (ho:0<c→o=255 - (q:Int)):
 bodyPost Tryz.prog Tryz.f274 (BePost w b l c q) Exit.ret ⟨tmps,[]⟩ W:=by
 refine bodyPost_ret (v:=.tuple #[.agg #[.int .i64 b,.int .i64 l,.int .i64 o,.bool false,.bool false,.bool false],.int .i64 c]) ?_ rfl ⟨o,rfl,ho,hB⟩
 obtain ⟨p1,p2,p3,p4,p5,p6,p7⟩:=hz.six'
 simp [results,Tryz.results274,go_sem,h6,h7,p1,p2,p3,p4,p5,p6]
theorem be_set {w2:World} {g:Nat} (hz:Blk w2 g #[.int .i64 0,.int .i64 0,.int .i64 0,.bool false,.bool false,.bool false] 135) (b l o:Int):
 Blk ((((((w2.setCell ⟨g,0,none⟩ (.int .i64 b)).setCell ⟨g,1,none⟩ (.int .i64 l)).setCell ⟨g,2,none⟩ (.int .i64 o)).setCell ⟨g,3,none⟩ (.bool false)).setCell ⟨g,4,none⟩ (.bool false)).setCell ⟨g,5,none⟩ (.bool false)) g #[.int .i64 b,.int .i64 l,.int .i64 o,.bool false,.bool false,.bool false] 135:=
 Blk.set (Blk.set (Blk.set (Blk.set (Blk.set (Blk.set hz 0 _) 1 _) 2 _) 3 _) 4 _) 5 _
theorem be_below {B:Nat} {w w2:World} {g:Nat} (hg:B≤g) (h:Below B w w2) (b l o:Int):
 Below B w ((((((w2.setCell ⟨g,0,none⟩ (.int .i64 b)).setCell ⟨g,1,none⟩ (.int .i64 l)).setCell ⟨g,2,none⟩ (.int .i64 o)).setCell ⟨g,3,none⟩ (.bool false)).setCell ⟨g,4,none⟩ (.bool false)).setCell ⟨g,5,none⟩ (.bool false)):=
 (((((h.setCell hg _).setCell hg _).setCell hg _).setCell hg _).setCell hg _).setCell hg _
set_option maxHeartbeats 2000000 in
theorem l2Best_narrow (a s l:Int) (w:World) (hl:5≤l) (hl2:l<8) (ha:0≤a) (hs:0<s) (has:a+s≤262144):
 Calls Tryz.prog 274 #[.int .i64 l,.int .i64 a,.int .i64 s] w (BePost w (baseOf a l) l (cnt l (qOf a (a+s) l)) (qOf a (a+s) l)):=by
 obtain ⟨P,hP⟩:∃ P,(2:Int)^(l - 3).toNat=P:=⟨_,rfl⟩
 obtain ⟨N,hN⟩:∃ N,(2:Int)^l.toNat=N:=⟨_,rfl⟩
 obtain ⟨g1,g2,g3,g4,g5,g6,g7⟩:=parts a l P N hl (by omega) hP hN ha (by omega)
 obtain ⟨b0,b1,b2,b3,b4⟩:=base_ok a l N hl (by omega) hN ha (by omega)
 have hdm:=div_mul_base a N ha (by omega)
 obtain ⟨b,hb⟩:∃ b,b=a - a % N:=⟨_,rfl⟩
 have hbo:baseOf a l=b:=by unfold baseOf;rw [hN,hb]
 rw [← hb] at b0 b1 b2 hdm
 have HP2:=hide (fun w=>l2Power_any l (by omega) (by omega) w)
 rw [hN] at HP2
 have hwf:(Lit.int .i64 b).wf=true:=by simp [Lit.wf,IntKind.min,IntKind.max,IntKind.bits,IntKind.signed];omega
 have HR:=hide (fun w=>sRegionOk_any b l 0 false false false w hwf)
 have hrok:rok b l 0=true:=by unfold rok;rw [hN];simp;omega
 rw [hrok] at HR
 rw [hbo]
 have h8:8 * P≤1024:=by
  have:l=5∨l=6∨l=7:=by omega
  rcases this with rfl | rfl | rfl <;> (simp at hP;omega)
 have HE:=hide (show ∀ c:Bool,(c=true ↔ (a=b∧N≤s))→qOf a (a+s) l=(if c then 255 else 0)∧cnt l (qOf a (a+s) l)=(if c then N else 0) from by
  intro c hc
  have e:qOf a (a+s) l=(if c then 255 else 0):=by
   unfold qOf
   rw [if_pos hl2,hN]
   cases c
   ·rw [if_neg (by simp at hc;omega)];rfl
   ·have:=hc.1 rfl
    rw [if_pos (by omega)];rfl
  refine ⟨e,?_⟩
  rw [e]
  cases c
  ·exact cnt_zero l
  ·show cnt l 255=N
   unfold cnt
   rw [hP,show popc 255=8 from rfl,g1]
   rfl)
 have hN1:N≤1024:=by omega
 have hN0:0<N:=by omega
 clear hP hN g1 g2 g3 g4 g5 g6 g7 hrok hbo h8 b2 b3 b4 hb hwf
 go_enter Tryz.func274,Tryz.ntmps274
 go_wp2_with fail
 refine (HP2.out _).mono ?_
 rintro e w1 ⟨rfl,rfl⟩
 go_wp2_with fail
 refine (HR.out _).mono ?_
 rintro e w2 ⟨rfl,hb2⟩
 have kz:=((Blk.new w #[.int .i64 0,.int .i64 0,.int .i64 0,.bool false,.bool false,.bool false] 135).alloc (.cells #[.int .i64 b,.int .i64 l,.int .i64 0,.bool false,.bool false,.bool false] 135)).below hb2
 have kr:=(Blk.new (w.alloc (.cells #[.int .i64 0,.int .i64 0,.int .i64 0,.bool false,.bool false,.bool false] 135)) #[.int .i64 b,.int .i64 l,.int .i64 0,.bool false,.bool false,.bool false] 135).below hb2
 simp only [World.size_alloc] at kr
 have HB2:=hide ((((Below.refl w.heap.size w).alloc (Nat.le_refl _) (.cells #[.int .i64 0,.int .i64 0,.int .i64 0,.bool false,.bool false,.bool false] 135)).alloc (by simp) (.cells #[.int .i64 b,.int .i64 l,.int .i64 0,.bool false,.bool false,.bool false] 135)).trans (hb2.mono (by simp;omega)))
 obtain ⟨q1,q2,q3,q4,q5,q6,q7⟩:=kz.six'
 obtain ⟨p1,p2,p3,p4,p5,p6,p7⟩:=kr.six'
 have KZ:=hide kz
 clear kz kr hb2
 by_cases hba:b=a
 ·subst hba
  by_cases hNs:s<N
  ·obtain ⟨x1,x2⟩:=HE.out false (by simp;omega)
   have X:=hide (And.intro x1 x2)
   clear x1 x2 HE
   go_wp2_with fail
   rw [X.out.2,X.out.1]
   exact be_end w _ _ b l 0 0 0 rfl rfl (be_set KZ.out b l 0) (be_below (Nat.le_refl _) HB2.out b l 0) (fun h=>absurd h (by omega))
  ·obtain ⟨x1,x2⟩:=HE.out true (by simp;omega)
   have X:=hide (And.intro x1 x2)
   clear x1 x2 HE
   go_wp2_with fail
   rw [X.out.2,X.out.1]
   exact be_end w _ _ b l 0 N 255 rfl rfl (be_set KZ.out b l 0) (be_below (Nat.le_refl _) HB2.out b l 0) (fun _=>rfl)
 ·obtain ⟨x1,x2⟩:=HE.out false (by simp;omega)
  have X:=hide (And.intro x1 x2)
  have hba':(b != a)=true:=by simpa using hba
  clear x1 x2 HE hba
  go_wp2_with fail
  rw [X.out.2,X.out.1]
  exact be_end w _ _ b l 0 0 0 rfl rfl (be_set KZ.out b l 0) (be_below (Nat.le_refl _) HB2.out b l 0) (fun h=>absurd h (by omega))
set_option maxHeartbeats 2000000 in
theorem l2Best_wide (a s l:Int) (w:World) (hl:8≤l) (hl2:l≤14) (ha:0≤a) (hs:0<s) (has:a+s≤262144):
 Calls Tryz.prog 274 #[.int .i64 l,.int .i64 a,.int .i64 s] w (BePost w (baseOf a l) l (cnt l (qOf a (a+s) l)) (qOf a (a+s) l)):=by
 obtain ⟨P,hP⟩:∃ P,(2:Int)^(l - 3).toNat=P:=⟨_,rfl⟩
 obtain ⟨N,hN⟩:∃ N,(2:Int)^l.toNat=N:=⟨_,rfl⟩
 obtain ⟨g1,g2,g3,g4,g5,g6,g7⟩:=parts a l P N (by omega) (by omega) hP hN ha (by omega)
 obtain ⟨b0,b1,b2,b3,b4⟩:=base_ok a l N (by omega) (by omega) hN ha (by omega)
 have hdm:=div_mul_base a N ha (by omega)
 have hjle:=jj_le a (a+s) l g5
 have HIN:=hide (part_in a (a+s) l P N (by omega) hl2 hP hN ha (by omega) has)
 have HQ:=hide (show qOf a (a+s) l=runq (i0Of a l) (jj a (a+s) l)∧cnt l (qOf a (a+s) l)=(jj a (a+s) l:Int) * P from by
  have e:=qOf_wide a (a+s) l hl
  refine ⟨e,?_⟩
  rw [e]
  exact cnt_run l P hP _ _ g5 hjle)
 obtain ⟨b,hb⟩:∃ b,b=a - a % N:=⟨_,rfl⟩
 have hbo:baseOf a l=b:=by unfold baseOf;rw [hN,hb]
 rw [← hb] at b0 b1 b2 hdm
 have HP2:=hide (fun w=>l2Power_any l (by omega) (by omega) w)
 rw [hN] at HP2
 have hwf:(Lit.int .i64 b).wf=true:=by simp [Lit.wf,IntKind.min,IntKind.max,IntKind.bits,IntKind.signed];omega
 have HR:=hide (fun w=>sRegionOk_any b l 0 false false false w hwf)
 have hrok:rok b l 0=true:=by unfold rok;rw [hN];simp;omega
 rw [hrok] at HR
 rw [hbo] at HIN ⊢
 generalize i0Of a l=i0 at *
 generalize jj a (a+s) l=j at *
 generalize qOf a (a+s) l=q at *
 have hd8:N / 8=P:=by omega
 have hN1:N≤16384:=by omega
 have hN0:0<N:=by omega
 clear hP hN g1 g4 g6 g7 hrok hbo b2 b3 b4 hb hwf
 go_enter Tryz.func274,Tryz.ntmps274
 go_wp2_with fail
 refine (HP2.out _).mono ?_
 rintro e w1 ⟨rfl,rfl⟩
 go_wp2_with fail
 refine (HR.out _).mono ?_
 rintro e w2 ⟨rfl,hb2⟩
 have kz:=((Blk.new w #[.int .i64 0,.int .i64 0,.int .i64 0,.bool false,.bool false,.bool false] 135).alloc (.cells #[.int .i64 b,.int .i64 l,.int .i64 0,.bool false,.bool false,.bool false] 135)).below hb2
 have kr:=(Blk.new (w.alloc (.cells #[.int .i64 0,.int .i64 0,.int .i64 0,.bool false,.bool false,.bool false] 135)) #[.int .i64 b,.int .i64 l,.int .i64 0,.bool false,.bool false,.bool false] 135).below hb2
 simp only [World.size_alloc] at kr
 have HB2:=hide ((((Below.refl w.heap.size w).alloc (Nat.le_refl _) (.cells #[.int .i64 0,.int .i64 0,.int .i64 0,.bool false,.bool false,.bool false] 135)).alloc (by simp) (.cells #[.int .i64 b,.int .i64 l,.int .i64 0,.bool false,.bool false,.bool false] 135)).trans (hb2.mono (by simp;omega)))
 have KZ:=hide kz
 have KR:=hide kr
 clear kz kr hb2
 go_wp2_with fail
 rw [hd8]
 have b1':b≤262144:=by omega
 clear hd8 hdm b1 hN1 hN0
 have HOFF:=hide (show ∀ i,i≤8→∃ o,o=2 ^ i - 1 - runq i0 (ci i0 j i)∧o≤255 from fun i hi=>⟨_,rfl,by
  have:2 ^ i≤2 ^ 8:=Nat.pow_le_pow_right (by omega) hi
  omega⟩)
 go_loopw [12,13] (fun c x wr=>∃ (i o:Nat),i≤8∧c=.int .i64 ((ci i0 j i:Int) * P)∧x=.int .i64 (i:Int)∧o=2 ^ i - 1 - runq i0 (ci i0 j i)∧Blk wr (w.heap.size+1) #[.int .i64 b,.int .i64 l,.int .i64 (o:Int),.bool false,.bool false,.bool false] 135∧Blk wr w.heap.size #[.int .i64 0,.int .i64 0,.int .i64 0,.bool false,.bool false,.bool false] 135∧Below w.heap.size w wr) (fun _ x _=>8 - (intOf x).toNat)
 case atStart=>
  have h0:ci i0 j 0=0:=by simp [ci]
  exact ⟨0,0,by omega,by rw [h0];simp,rfl,by simp,KR.out,KZ.out,HB2.out⟩
 case round=>
  obtain ⟨i,o,hi,rfl,rfl,ho,kr,kz,hB⟩:=hrel
  have ho8:o≤255:=by
   have:2 ^ i≤2 ^ 8:=Nat.pow_le_pow_right (by omega) hi
   omega
  have hci:ci i0 j i≤8:=by unfold ci;omega
  obtain ⟨c,hc⟩:∃ c:Int,c=(ci i0 j i:Int) * P:=⟨_,rfl⟩
  have hc0:0≤c:=by rw [hc];exact Int.mul_nonneg (by omega) (by omega)
  have hc1:c≤16384:=by
   have:(ci i0 j i:Int) * P≤8 * P:=Int.mul_le_mul_of_nonneg_right (by omega) (by omega)
   omega
  have HCC:=hide hc
  rw [← hc]
  have HOO:=hide ho
  have HB:=hide hB
  have KR2:=hide kr
  have KZ2:=hide kz
  obtain ⟨q1,q2,q3,q4,q5,q6,q7⟩:=kz.six'
  obtain ⟨p1,p2,p3,p4,p5,p6,p7⟩:=kr.six'
  clear hc ho kr kz hB HB2 KZ KR
  by_cases h8:i<8
  ·have hiP0:0≤(i:Int) * P:=Int.mul_nonneg (by omega) (by omega)
   have hiP1:(i:Int) * P≤16384:=by
    have:(i:Int) * P≤8 * P:=Int.mul_le_mul_of_nonneg_right (by omega) (by omega)
    omega
   have hin:=HIN.out i h8
   by_cases hp:i0≤i∧i<i0+j
   ·obtain ⟨k1,k2,k3⟩:=hin.2 hp
    have HN:=hide (ci_in i0 g5 j (by omega) i h8 hp)
    clear hin hp
    go_wp2_with fail
    constructor
    ·exact ⟨i+1,o,by omega,by rw [HN.out.1,HCC.out];congr 1;rw [Int.natCast_add,Int.add_mul];simp,by go_num,by rw [HOO.out];exact HN.out.2,KR2.out,KZ2.out,HB.out⟩
    ·simp [intOf];omega
   ·have HN:=hide (ci_out i0 g5 j (by omega) i h8 ⟨by omega,hjle⟩)
    obtain ⟨X,hX⟩:∃ X:Nat,X=2 ^ i:=⟨_,rfl⟩
    have hX8:X≤256:=by
     have:2 ^ i≤2 ^ 8:=Nat.pow_le_pow_right (by omega) hi
     omega
    have HP3:=hide (show ∀ w,Calls Tryz.prog 167 #[.int .i64 (i:Int)] w fun e w'=>e=.returned (.int .i64 (X:Int))∧w'=w from fun w=>(l2Power_any (i:Int) (by omega) (by omega) w).mono fun e w' h=>⟨by rw [h.1,hX];simp,h.2⟩)
    have HX:=hide hX
    have hor:(b+(i:Int) * P<a)∨(a≤b+(i:Int) * P∧a+s<b+(i:Int) * P+P)∨(a≤b+(i:Int) * P∧b+(i:Int) * P+P≤a+s∧a % P≠0):=by
     by_cases u1:a≤b+(i:Int) * P
     ·by_cases u2:b+(i:Int) * P+P≤a+s
      ·exact Or.inr (Or.inr ⟨u1,u2,fun u3=>hp (hin.1 ⟨u1,u2,u3⟩)⟩)
      ·exact Or.inr (Or.inl ⟨u1,by omega⟩)
     ·exact Or.inl (by omega)
    clear hin hp hX
    have HREL:=hide (show ∀ W,W=(wr.setCell ⟨w.heap.size+1,2,none⟩ (.int .i64 ((o:Int)+(X:Int)))).drew→∃ (i_1 o:Nat),i_1≤8∧Value.int .i64 c=.int .i64 ((ci i0 j i_1:Int) * P)∧Value.int .i64 ((i:Int)+1)=.int .i64 (i_1:Int)∧o=2 ^ i_1 - 1 - runq i0 (ci i0 j i_1)∧Blk W (w.heap.size+1) #[.int .i64 b,.int .i64 l,.int .i64 (o:Int),.bool false,.bool false,.bool false] 135∧Blk W w.heap.size #[.int .i64 0,.int .i64 0,.int .i64 0,.bool false,.bool false,.bool false] 135∧Below w.heap.size w W from by
     rintro W rfl
     refine ⟨i+1,o+X,by omega,by rw [HN.out.1,HCC.out],by simp,by rw [HOO.out,HX.out];exact HN.out.2,?_,(show Blk (wr.setCell ⟨w.heap.size+1,2,none⟩ (.int .i64 ((o:Int)+(X:Int)))) _ _ _ from Blk.other KZ2.out _ _ (by simp)),(HB.out.setCell (by simp) _).drew⟩
     have:=Blk.set KR2.out 2 (.int .i64 ((o:Int)+(X:Int)))
     rw [Int.natCast_add]
     exact this)
    have hwr:IntKind.i64.wrap ((o:Int)+(X:Int))=(o:Int)+(X:Int):=cv_wrap (by omega) (by omega)
    rcases hor with u | ⟨u1,u2⟩ | ⟨u1,u2,u3⟩
    ·go_wp2_with fail
     go_region_with (go_at_call 167;refine (HP3.out _).mono ?_;rintro e w3 ⟨rfl,rfl⟩)
     all_goals
      try rw [hwr]
      go_wp2_with fail
      constructor
      ·exact HREL.out _ rfl
      ·simp [intOf];omega
    ·have u2n:¬ (b+(i:Int) * P+P≤a+s):=by omega
     go_wp2_with fail
     all_goals first
      | (exfalso;omega)
      | (go_region_with (go_at_call 167;refine (HP3.out _).mono ?_;rintro e w3 ⟨rfl,rfl⟩)
         all_goals (try rw [hwr])
         all_goals go_wp2_with fail
         all_goals (refine ⟨HREL.out _ rfl,?_⟩;simp [intOf];omega))
    ·have u3':(a % P == 0)=false:=by simpa using u3
     clear u3
     go_wp2_with fail
     go_region_with (go_at_call 167;refine (HP3.out _).mono ?_;rintro e w3 ⟨rfl,rfl⟩)
     all_goals
      try rw [hwr]
      go_wp2_with fail
      constructor
      ·exact HREL.out _ rfl
      ·simp [intOf];omega
  ·have hi8:i=8:=by omega
   subst hi8
   have hq:(o:Int)=255 - (q:Int):=by
    have:=HOO.out
    rw [ci_end i0 g5 j (by omega) hjle,← HQ.out.1] at this
    have hq255:q<256:=by rw [HQ.out.1];exact runq_lt i0 g5 j (by omega) hjle
    omega
   have hc':cnt l q=c:=by rw [HQ.out.2,HCC.out,ci_end i0 g5 j (by omega) hjle]
   have HC2:=hide hc'
   have HQ2:=hide hq
   clear hq hc'
   go_wp2_with fail
   rw [HC2.out]
   refine be_end w _ _ b l (o:Int) c q ?_ ?_ (be_set KZ2.out b l (o:Int)) (be_below (Nat.le_refl _) HB.out b l (o:Int)) (fun _=>HQ2.out)
   ·rfl
   ·rfl
theorem l2Best_any (a s l:Int) (w:World) (hl:5≤l) (hl2:l≤14) (ha:0≤a) (hs:0<s) (has:a+s≤262144):
 Calls Tryz.prog 274 #[.int .i64 l,.int .i64 a,.int .i64 s] w (BePost w (baseOf a l) l (cnt l (qOf a (a+s) l)) (qOf a (a+s) l)):=by
 by_cases h:l<8
 ·exact l2Best_narrow a s l w hl h ha hs has
 ·exact l2Best_wide a s l w (by omega) hl2 ha hs has
set_option maxHeartbeats 1000000 in
theorem sCover_bad (f s:Int) (w:World) (h1:-9223372036854775808≤f∧f≤9223372036854775807) (h2:-9223372036854775808≤s∧s≤9223372036854775807) (h:cvOk f s=false):
 Calls Tryz.prog 258 #[.int .i64 f,.int .i64 s] w (CvPost w false []):=by
 have HO:=hide (or_empty w w.heap.size (Nat.le_refl _))
 have HB:=hide ((Below.refl w.heap.size w).alloc (Nat.le_refl _) (.cells #[] 135))
 have HE:=hide (show ∀ e W,W=w.alloc (.cells #[] 135)→e=Ending.returned (.tuple #[.slice (some ⟨w.heap.size,0,none⟩) 0 0,.bool false])→CvPost w false [] e W from by
  rintro e W rfl rfl
  exact ⟨_,0,0,rfl,HO.out,HB.out⟩)
 have hor:f<0∨(0≤f∧s<0)∨(0≤f∧0≤s∧262144<f)∨(0≤f∧0≤s∧f≤262144∧262144<s)∨(0≤f∧0≤s∧f≤262144∧s≤262144∧262144<f+s)∨(0≤f∧0≤s∧f≤262144∧s≤262144∧f+s≤262144∧f % 32≠0)∨(0≤f∧0≤s∧f≤262144∧s≤262144∧f+s≤262144∧f % 32=0∧s % 32≠0):=by
  unfold cvOk grn at h
  simp at h
  omega
 clear h
 rcases hor with u | ⟨u1,u2⟩ | ⟨u1,u2,u3⟩ | ⟨u1,u2,u3,u4⟩ | ⟨u1,u2,u3,u4,u5⟩ | ⟨u1,u2,u3,u4,u5,u6⟩ | ⟨u1,u2,u3,u4,u5,u6,u7⟩
 case inr.inr.inr.inr.inr.inl=>
  have u6':(f % 32 != 0)=true:=by simpa using u6
  clear u6
  go_enter Tryz.func258,Tryz.ntmps258
  go_wp2_with fail
  go_ret2
  exact HE.out _ _ rfl rfl
 case inr.inr.inr.inr.inr.inr=>
  have u6':(f % 32 != 0)=false:=by simpa using u6
  have u7':(s % 32 != 0)=true:=by simpa using u7
  clear u6 u7
  go_enter Tryz.func258,Tryz.ntmps258
  go_wp2_with fail
  go_ret2
  exact HE.out _ _ rfl rfl
 all_goals
  go_enter Tryz.func258,Tryz.ntmps258
  go_wp2_with fail
  go_ret2
  exact HE.out _ _ rfl rfl
def bcells:CSt→Array Value
 | none=>#[.int .i64 0,.int .i64 0,.int .i64 0,.bool false,.bool false,.bool false]
 | some (b,l,q)=>#[.int .i64 b,.int .i64 l,.int .i64 (255 - (q:Int)),.bool false,.bool false,.bool false]
theorem bcells_six (s:CSt):∃ x y z,bcells s=#[.int .i64 x,.int .i64 y,.int .i64 z,.bool false,.bool false,.bool false]:=by
 match s with
 | none=>exact ⟨_,_,_,rfl⟩
 | some (b,l,q)=>exact ⟨_,_,_,rfl⟩
theorem sCnt_le (a en:Int) (ha:0≤a) (hae:a<en) (hen:en≤262144) (n:Nat) (hn:n≤10):sCnt (cvFold a en n)≤262144:=by
 match h:cvFold a en n with
 | none=>simp [sCnt]
 | some (b,l,q)=>
   obtain ⟨k1,k2,k3,k4⟩:=cvFold_gives a en ha hae hen n hn b l q h
   obtain ⟨c1,c2⟩:=qOf_cnt a en l k1 k2 ha hae hen
   rw [← k4] at c1
   simp only [sCnt]
   omega
set_option maxRecDepth 100000 in
set_option maxHeartbeats 2000000 in
theorem sCover_good (f s:Int) (w:World) (hf:0≤f) (hf32:f % 32=0) (hs:0≤s) (hs32:s % 32=0) (hfs:s≤262144 - f):
 Calls Tryz.prog 258 #[.int .i64 f,.int .i64 s] w (CvPost w true (cvAll f s)):=by
 obtain ⟨i0,hi,hz0,hz1,hz2⟩:=info_parts infoR
 obtain ⟨L,hL⟩:∃ L,L=cvAll f s:=⟨_,rfl⟩
 rw [← hL]
 unfold cvAll at hL
 have HL:=hide hL
 clear hL
 have HO:=hide (or_empty w w.heap.size (Nat.le_refl _))
 have HB:=hide ((Below.refl w.heap.size w).alloc (Nat.le_refl _) (.cells #[] 135))
 have k1:(f % 32 != 0)=false:=by simpa using hf32
 have k2:(s % 32 != 0)=false:=by simpa using hs32
 have k3:f+s≤262144:=by omega
 have k4:f≤262144:=by omega
 have k5:s≤262144:=by omega
 go_enter Tryz.func258,Tryz.ntmps258
 go_wp2_with fail
 go_loopw [0,1,6] (fun x y r wr=>∃ (A:Option Addr) (m cap:Nat) (rs:List Rg) (n:Nat) (a z:Int),x=.int .i64 a∧y=.int .i64 z∧r=.slice A m cap∧f≤a∧a+z=f+s∧0≤z∧a % 32=0∧z≤32 * (n:Int)∧m+n≤8192∧ORg wr w.heap.size (.slice A m cap) rs∧L=rs++cvList (f+s) n a∧Below w.heap.size w wr) (fun _ y _ _=>(intOf y).toNat)
 case atStart=>exact ⟨_,0,0,[],(s / 32).toNat,f,s,rfl,rfl,rfl,by omega,by omega,by omega,hf32,by omega,by omega,HO.out,by rw [HL.out];rfl,HB.out⟩
 case round=>
  obtain ⟨A,m,cap,rs,n,a,z,rfl,rfl,rfl,ha,haz,hz,ha32,hn,hmn,hO,hLL,hB⟩:=hrel
  obtain ⟨w9,hw9⟩:∃ w9,w9=wr:=⟨_,rfl⟩
  subst hw9
  by_cases hlt:0<z
  ·rw [← haz] at hLL
   have hlen:=(or_rs hO).1
   obtain ⟨b,l,q,hF,hl,hl2,hq,hc1,hc2,hc3,hb,_⟩:=chosen a (a+z) (by omega) (by omega) (by omega) ha32 (by omega)
   obtain ⟨n,rfl⟩:∃ n',n=n'+1:=⟨n - 1,by omega⟩
   rw [cvList_step (a+z) n a b l q (by omega) hF] at hLL
   have hbw:0≤b∧b≤262144:=by
    have:=base_ok a l _ hl hl2 rfl (by omega) (by omega)
    have:=pow_pos l.toNat
    rw [hb]
    unfold baseOf
    omega
   clear hb
   have HF:=hide hF
   have HLL:=hide hLL
   have HO1:=hide hO
   have HB1:=hide hB
   have HLEN0:=hide hlen
   have HAZ:=hide haz
   have hsz:=hB.size
   have KZ:=hide (Blk.new w9 #[.int .i64 0,.int .i64 0,.int .i64 0,.bool false,.bool false,.bool false] 135)
   clear hLL hO hB hF hlen HO HB
   go_wp2_with fail
   go_loopw [8,9] (fun mo lg wq=>∃ (k:Nat),k≤10∧mo=.int .i64 (sCnt (cvFold a (a+z) k))∧lg=.int .i64 (5+(k:Int))∧Blk wq w9.heap.size (bcells (cvFold a (a+z) k)) 135∧Below w9.heap.size w9 wq) (fun _ lg _=>15 - (intOf lg).toNat)
   case atStart=>exact ⟨0,by omega,by rw [cvFold_none];rfl,rfl,by rw [cvFold_none];exact KZ.out,(Below.refl _ _).alloc (Nat.le_refl _) _⟩
   case round=>
    obtain ⟨k,hk,rfl,rfl,kb,hBq⟩:=hrel
    have hc0:=sCnt_nonneg (cvFold a (a+z) k)
    have hc9:=sCnt_le a (a+z) (by omega) (by omega) (by omega) k hk
    by_cases hk10:k<10
    ·have HBE:=hide (l2Best_any a z (5+(k:Int)) wr (by omega) (by omega) (by omega) hlt (by omega))
     have HSU:=hide (cvFold_succ a (a+z) k)
     obtain ⟨x1,x2,x3,hx⟩:=bcells_six (cvFold a (a+z) k)
     rw [hx] at kb
     have hqc:=qOf_cnt a (a+z) (5+(k:Int)) (by omega) (by omega) (by omega) (by omega) (by omega)
     have hqn:=cnt_nonneg (5+(k:Int)) (qOf a (a+z) (5+(k:Int)))
     generalize hst:cvFold a (a+z) k=st at *
     generalize hcq:cnt (5+(k:Int)) (qOf a (a+z) (5+(k:Int)))=c at *
     generalize hbb:baseOf a (5+(k:Int))=bb at *
     obtain ⟨sc,hsc⟩:∃ sc,sc=sCnt st:=⟨_,rfl⟩
     rw [← hsc] at hc0 hc9 ⊢
     have HSC:=hide hsc
     have HCQ:=hide hcq
     have HX:=hide hx
     have hcle:c≤262144:=by omega
     have KB:=hide kb
     have HBQ:=hide hBq
     have hszq:=hBq.size
     have hltq:=kb.lt
     clear hsc hcq hx hqc hst hbb kb hBq
     go_wp2_with fail
     refine HBE.out.mono ?_
     rintro e w3 ⟨o,rfl,ho,hb3⟩
     have HO3:=hide ho
     have kb3:=(KB.out.below hb3).alloc (.cells #[.int .i64 bb,.int .i64 (5+(k:Int)),.int .i64 o,.bool false,.bool false,.bool false] 135)
     have hsz3:=hb3.size
     have HB3:=hide ((HBQ.out.trans (hb3.mono hszq)).alloc (by omega) (.cells #[.int .i64 bb,.int .i64 (5+(k:Int)),.int .i64 o,.bool false,.bool false,.bool false] 135))
     have KB3:=hide kb3
     obtain ⟨q1,q2,q3,q4,q5,q6,q7⟩:=kb3.six'
     clear ho hb3 kb3
     by_cases hgt:sc<c
     ·have HE:=hide (show cvFold a (a+z) (k+1)=some (bb,5+(k:Int),qOf a (a+z) (5+(k:Int))) from by
       rw [HSU.out]
       unfold keep
       rw [if_pos (by rw [← HSC.out,HCQ.out];exact hgt)])
      go_wp2_with fail
      refine ⟨⟨k+1,by omega,by rw [HE.out];exact congrArg (Value.int .i64) HCQ.out.symm,by go_num,?_,be_below (Nat.le_refl _) HB3.out bb (5+(k:Int)) o⟩,by simp [intOf];omega⟩
      rw [HE.out]
      have e2:bcells (some (bb,5+(k:Int),qOf a (a+z) (5+(k:Int))))=#[.int .i64 bb,.int .i64 (5+(k:Int)),.int .i64 o,.bool false,.bool false,.bool false]:=by
       simp only [bcells]
       rw [HO3.out (by omega)]
      rw [e2]
      exact Blk.set (Blk.set (Blk.set (Blk.set (Blk.set (Blk.set KB3.out 0 _) 1 _) 2 _) 3 _) 4 _) 5 _
     ·have HE:=hide (show cvFold a (a+z) (k+1)=st from by
       rw [HSU.out]
       unfold keep
       rw [if_neg (by rw [← HSC.out,HCQ.out];exact hgt)])
      go_wp2_with fail
      exact ⟨⟨k+1,by omega,by rw [HE.out,HSC.out],by go_num,by rw [HE.out,HX.out];exact KB3.out,HB3.out⟩,by simp [intOf];omega⟩
    ·have hk':k=10:=by omega
     subst hk'
     rw [HF.out] at kb hc0 hc9 ⊢
     obtain ⟨o,ho⟩:∃ o,o=255 - (q:Int):=⟨_,rfl⟩
     obtain ⟨c,hc⟩:∃ c,c=cnt l q:=⟨_,rfl⟩
     have kb':Blk wr w9.heap.size #[.int .i64 b,.int .i64 l,.int .i64 o,.bool false,.bool false,.bool false] 135:=by rw [ho];exact kb
     have hsc:sCnt (some (b,l,q))=c:=hc.symm
     rw [hsc] at hc0 hc9 ⊢
     rw [← hc] at hc1 hc2 hc3 HLL
     rw [← ho] at HLL
     have hwf:wfi b∧wfi l∧wfi o:=by unfold wfi;omega
     have HWF:=hide hwf
     have hO2:=turn_or (S:=fun _=>False) (turn_below hBq) HO1.out (fun _ _=>id)
     have HOWN:=hide (hO2.1.alloc (.cells #[.int .i64 b,.int .i64 l,.int .i64 o,.bool false,.bool false,.bool false] 135))
     rw [HLEN0.out] at HOWN
     have HLEN:=hide (show (cells6 (b,l,o,false,false,false)).length=1 * 6 from rfl)
     have HNEWS:=hide (news6 wr (b,l,o,false,false,false))
     have HONE:=hide (one6 (b,l,o,false,false,false))
     have HRS:=hide hO2.2
     have HLT:=hide hO2.1.lt
     have hszq:=hBq.size
     have HB3:=hide ((HB1.out.trans (hBq.mono hsz)).alloc (by omega) (.cells #[.int .i64 b,.int .i64 l,.int .i64 o,.bool false,.bool false,.bool false] 135))
     obtain ⟨q1,q2,q3,q4,q5,q6,q7⟩:=kb'.six'
     clear hO2 hBq kb kb' ho hc hsc hwf
     go_wp2_with (at_builtin;refine wpList_append_own _ rfl _ _ 63 rfl w.heap.size 135 i0 (.agg #[.int .i64 0,.int .i64 0,.int .i64 0,.bool false,.bool false,.bool false]) 6 32 Tryz.underlying63 hi hz0 hz1 hz2 rfl (by decide) (.slice A m cap) m (flat rs) rfl HOWN.out ⟨wr.heap.size,0,none⟩ 1 1 (cells6 (b,l,o,false,false,false)) rfl HLEN.out HNEWS.out HONE.out (by unfold maxLen;omega) (by omega) (by simp;omega) ?_;intro v' w3 hown3 hgr3 _;obtain ⟨A',cap',he⟩:=or_shape hown3;subst he;have hO3:=or_more (W:=wr) (v:=.slice A m cap) (g:=(b,l,o,false,false,false)) HRS.out HWF.out (by rw [HLEN0.out];exact hown3);have t3:=grown_turn hgr3;have hfar:∀ j,(Value.slice A m cap).ownBlock=some j→w.heap.size≤j:=fun j hj=>(HLT.out j hj).1;have HB4:=hide (below_turn HB3.out t3 hfar (by simp;omega));have HO3:=hide hO3;clear hO3 t3 hfar hown3 hgr3)
     refine ⟨⟨A',m+1,cap',rs++[(b,l,o,false,false,false)],n,a+c,z - c,by go_num,by go_num,rfl,by omega,by omega,by omega,by omega,by omega,by omega,HO3.out,by rw [HLL.out,HAZ.out];simp,HB4.out⟩,?_⟩
     simp [intOf];omega
  ·have hzz:z=0:=by omega
   subst hzz
   have hLe:L=rs:=by rw [hLL,cvList_end _ _ _ (by omega),List.append_nil]
   subst hLe
   have HO1:=hide hO
   have HB1:=hide hB
   clear hLL hO hB
   go_wp2_with fail
   go_ret2
   exact ⟨A,m,cap,rfl,HO1.out,HB1.out⟩
theorem sCover_any (f s:Int) (w:World) (h1:-9223372036854775808≤f∧f≤9223372036854775807) (h2:-9223372036854775808≤s∧s≤9223372036854775807):
 Calls Tryz.prog 258 #[.int .i64 f,.int .i64 s] w (CvPost w (cvOk f s) (cvL f s)):=by
 unfold cvL
 cases e:cvOk f s
 ·exact sCover_bad f s w h1 h2 e
 ·unfold cvOk grn at e
  simp at e
  exact sCover_good f s w (by omega) (by omega) (by omega) (by omega) (by omega)
end Go.Proofs.YtngdgogjlpjjpadGreat
namespace Go.Proofs.YtngdgogjlpjjpadGreat
open Go.RowKit
set_option linter.unusedVariables false
set_option linter.unusedSimpArgs false
set_option maxRecDepth 100000
def rgt (r x y:Bool) (g:Rg):Rg:=(g.1,g.2.1,g.2.2.1,r,x,y)
def rts (r x y:Bool) (L:List Rg):List Rg:=L.map (rgt r x y)
theorem rts_len (r x y:Bool) (L:List Rg):(rts r x y L).length=L.length:=by simp [rts]
theorem rts_step (r x y:Bool) (L:List Rg) (k:Nat) (h:k<L.length):(rts r x y L).take (k+1)=(rts r x y L).take k++[rgt r x y (L.getD k z6)]:=by
 rw [List.take_add_one]
 congr 1
 simp [rts,List.getD_eq_getElem?_getD,h]
theorem cvList_len:∀ (n:Nat) (en a:Int),(cvList en n a).length≤n
 | 0,en,a=>by simp [cvList]
 | n+1,en,a=>by
   unfold cvList
   split
   ·unfold cvTurn
    split
    ·have:=cvList_len n en
     simp only [List.length_cons]
     exact Nat.succ_le_succ (this _)
    ·simp
   ·simp
theorem cvL_len (f s:Int):(cvL f s).length≤8192:=by
 unfold cvL
 split
 ·rename_i h
  unfold cvAll
  unfold cvOk grn at h
  simp at h
  have:=cvList_len (s / 32).toNat (f+s) f
  omega
 ·simp
end Go.Proofs.YtngdgogjlpjjpadGreat
namespace Go.Proofs.YtngdgogjlpjjpadGreat
open Go.RowKit
set_option linter.unusedVariables false
def OB (w:World) (base:Nat) (v:Value) (zs:List Int):Prop:=w.ownsRow base 5 1 v zs.length (zs.map (Value.int .u8))∧∀ z ∈ zs,0≤z∧z≤255
def Own3 (w:World) (base:Nat) (v1 v2 v3:Value) (x1 x2 x3:List Int):Prop:=
 OB w base v1 x1∧OB w base v2 x2∧OB w base v3 x3∧(∀ k j,v1.ownBlock=some k→v2.ownBlock=some j→k<j)∧(∀ k j,v1.ownBlock=some k→v3.ownBlock=some j→k<j)∧∀ k j,v2.ownBlock=some k→v3.ownBlock=some j→k<j
theorem OB.below {w w':World} {base:Nat} {v:Value} {zs:List Int} (h:OB w base v zs) (hb:Below w.heap.size w w'):OB w' base v zs:=by
 refine ⟨?_,h.2⟩
 obtain ⟨hl,h0 | ⟨g,cap,cur,hv,hg,hh,h1,h2,h3,h4⟩⟩:=h.1
 ·exact ⟨hl,.inl h0⟩
 ·refine ⟨hl,.inr ⟨g,cap,cur,hv,hg,?_,h1,h2,h3,h4⟩⟩
  exact Blk.below (w:=w) hh hb
theorem OB.mono {w:World} {base base':Nat} {v:Value} {zs:List Int} (h:OB w base v zs) (hb:base'≤base):OB w base' v zs:=by
 refine ⟨?_,h.2⟩
 obtain ⟨hl,h0 | ⟨g,cap,cur,hv,hg,hh,h1,h2,h3,h4⟩⟩:=h.1
 ·exact ⟨hl,.inl h0⟩
 ·exact ⟨hl,.inr ⟨g,cap,cur,hv,by omega,hh,h1,h2,h3,h4⟩⟩
theorem OB.other {w:World} {base:Nat} {v:Value} {zs:List Int} (h:OB w base v zs) (a:Addr) (u:Value) (ha:a.block<base):OB (w.setCell a u) base v zs:=by
 refine ⟨?_,h.2⟩
 obtain ⟨hl,h0 | ⟨g,cap,cur,hv,hg,hh,h1,h2,h3,h4⟩⟩:=h.1
 ·exact ⟨hl,.inl h0⟩
 ·exact ⟨hl,.inr ⟨g,cap,cur,hv,hg,Blk.other (w:=w) hh a u (by omega),h1,h2,h3,h4⟩⟩
theorem OB.lt {w:World} {base:Nat} {v:Value} {zs:List Int} (h:OB w base v zs):∀ k,v.ownBlock=some k→base≤k∧k<w.heap.size:=h.1.lt
theorem OB.bs {w:World} {base n cap:Nat} {a:Option Addr} {zs:List Int} (h:OB w base (.slice a n cap) zs):BS w a n cap zs:=by
 obtain ⟨hl,⟨h0,h0'⟩ | ⟨g,cap',cur,hv,hg,hh,h1,h2,h3,h4⟩⟩:=h.1
 ·simp at h0
  obtain ⟨rfl,rfl,rfl⟩:=h0
  exact ⟨h0',Nat.zero_le _,h.2,fun hn=>absurd rfl hn,Nat.le_refl _⟩
 ·simp at hv
  obtain ⟨rfl,rfl,rfl⟩:=hv
  refine ⟨rfl,by omega,h.2,fun hn=>⟨g,0,rfl,fun i hi=>?_⟩,h1⟩
  rw [Nat.zero_add,Blk.cell (w:=w) hh]
  have:cur.toList[i]?=(zs.map (Value.int .u8))[i]?:=by
   rw [← h4,List.getElem?_take,if_pos (by omega)]
  rw [Array.getElem?_toList] at this
  rw [this]
  simp [List.getD_eq_getElem?_getD,hi]
def bt (v:Int) (j:Nat):Int:=v / (256:Int)^j % 256
def putW (w:World) (g k:Nat) (v:Int):Nat→World
 | 0=>w
 | j+1=>(putW w g k v j).setCell ⟨g,k+j,none⟩ (.int .u8 (bt v j))
def put (zs:List Int) (k:Nat) (v:Int):Nat→List Int
 | 0=>zs
 | j+1=>(put zs k v j).set (k+j) (bt v j)
theorem put_len (zs:List Int) (k:Nat) (v:Int):∀ j,(put zs k v j).length=zs.length
 | 0=>rfl
 | j+1=>by rw [put,List.length_set,put_len zs k v j]
def Room (w:World) (g n:Nat):Prop:=∃ cur,Blk w g cur 5∧n≤cur.size
theorem Room.cell {w:World} {g n:Nat} (h:Room w g n) (i:Nat) (hi:i<n):∃ u,w.cell? ⟨g,i,none⟩=some u:=by
 obtain ⟨cur,hb,hn⟩:=h
 rw [hb.cell]
 exact ⟨cur[i],by simp⟩
theorem Room.frozen {w:World} {g n:Nat} (h:Room w g n) (i:Nat):w.frozen? ⟨g,i,none⟩=false:=by
 obtain ⟨cur,hb,hn⟩:=h
 exact hb.frozen i
theorem Room.set {w:World} {g n:Nat} (h:Room w g n) (i:Nat) (u:Value):Room (w.setCell ⟨g,i,none⟩ u) g n:=by
 obtain ⟨cur,hb,hn⟩:=h
 exact ⟨_,hb.set i u,by simpa using hn⟩
theorem Room.put {w:World} {g n:Nat} (h:Room w g n) (k:Nat) (v:Int):∀ j,Room (putW w g k v j) g n
 | 0=>h
 | j+1=>(Room.put h k v j).set (k+j) _
theorem bt0 (v:Int):bt v 0=v % 256:=by unfold bt;simp
theorem bt1 (v:Int):bt v 1=v / 256 % 256:=by unfold bt;simp
theorem bt2 (v:Int):bt v 2=v / 65536 % 256:=by unfold bt;rw [show (256:Int)^2=65536 from rfl]
theorem bt3 (v:Int):bt v 3=v / 16777216 % 256:=by unfold bt;rw [show (256:Int)^3=16777216 from rfl]
theorem put_desc4 (zs:List Int) (k:Nat) (v:Int):put zs k v 4=(((zs.set (k+3) (bt v 3)).set (k+2) (bt v 2)).set (k+1) (bt v 1)).set k (bt v 0):=by
 simp only [put,Nat.add_zero]
 rw [List.set_comm _ _ (show k≠k+1 by omega),List.set_comm _ _ (show k≠k+2 by omega),List.set_comm _ _ (show k≠k+3 by omega)]
 congr 1
 rw [List.set_comm _ _ (show k+1≠k+2 by omega),List.set_comm _ _ (show k+1≠k+3 by omega)]
 congr 1
 rw [List.set_comm _ _ (show k+2≠k+3 by omega)]
theorem own3_below {w w':World} {base:Nat} {v1 v2 v3:Value} {x1 x2 x3:List Int} (h:Own3 w base v1 v2 v3 x1 x2 x3) (hb:Below w.heap.size w w'):Own3 w' base v1 v2 v3 x1 x2 x3:=
 ⟨h.1.below hb,h.2.1.below hb,h.2.2.1.below hb,h.2.2.2⟩
theorem own3_other {w:World} {base:Nat} {v1 v2 v3:Value} {x1 x2 x3:List Int} (h:Own3 w base v1 v2 v3 x1 x2 x3) (a:Addr) (u:Value) (ha:a.block<base):Own3 (w.setCell a u) base v1 v2 v3 x1 x2 x3:=
 ⟨h.1.other a u ha,h.2.1.other a u ha,h.2.2.1.other a u ha,h.2.2.2⟩
theorem own3_mono {w:World} {base base':Nat} {v1 v2 v3:Value} {x1 x2 x3:List Int} (h:Own3 w base v1 v2 v3 x1 x2 x3) (hb:base'≤base):Own3 w base' v1 v2 v3 x1 x2 x3:=
 ⟨h.1.mono hb,h.2.1.mono hb,h.2.2.1.mono hb,h.2.2.2⟩
theorem grown_blk {w w':World} {row:Option Nat} {k:Nat} {cs:Array Value} {t:TypeId} (hg:w.grownBy w' row) (h:Blk w k cs t) (hk:some k≠row):Blk w' k cs t:=by
 have:=hg.block k h.lt hk
 unfold Blk at *;rw [this];exact h
structure Hold (w W:World) (base go:Nat) (bx:Array Value) (v1 v2 v3:Value) (x1 x2 x3:List Int):Prop where
 below:Below w.heap.size w W
 big:w.heap.size+2≤base
 gobig:base≤go
 box:Blk W w.heap.size bx 38
 res:Blk W (w.heap.size+1) #[.slice none 0 0,.slice none 0 0,.slice none 0 0] 38
 out:Blk W go #[v1,v2,v3] 38
 own:Own3 W base v1 v2 v3 x1 x2 x3
 far:∀ v,v=v1∨v=v2∨v=v3→v.ownBlock≠some go
theorem Hold.step {w W W':World} {base go:Nat} {bx:Array Value} {v1 v2 v3:Value} {x1 x2 x3:List Int} (h:Hold w W base go bx v1 v2 v3 x1 x2 x3) (hb:Below W.heap.size W W'):Hold w W' base go bx v1 v2 v3 x1 x2 x3:=
 ⟨h.below.trans (hb.mono h.below.size),h.big,h.gobig,h.box.below hb,h.res.below hb,h.out.below hb,own3_below h.own hb,h.far⟩
def resW (W:World) (g:Nat) (v1 v2 v3:Value):World:=((W.setCell ⟨g,0,none⟩ v1).setCell ⟨g,1,none⟩ v2).setCell ⟨g,2,none⟩ v3
theorem Hold.done {w W:World} {base go:Nat} {bx:Array Value} {v1 v2 v3:Value} {x1 x2 x3:List Int} (h:Hold w W base go bx v1 v2 v3 x1 x2 x3):
 Own3 (resW W (w.heap.size+1) v1 v2 v3) w.heap.size v1 v2 v3 x1 x2 x3∧Below w.heap.size w (resW W (w.heap.size+1) v1 v2 v3):=by
 have hb:=h.big
 exact ⟨own3_mono (own3_other (own3_other (own3_other h.own _ _ (by dsimp only;omega)) _ _ (by dsimp only;omega)) _ _ (by dsimp only;omega)) (by omega),
  ((h.below.setCell (by dsimp only;omega) _).setCell (by dsimp only;omega) _).setCell (by dsimp only;omega) _⟩
theorem turn_ob {S:Nat→Prop} {base:Nat} {w w':World} {v:Value} {zs:List Int} (ht:Turn S w w') (h:OB w base v zs) (hk:∀ k,v.ownBlock=some k→¬ S k):OB w' base v zs:=by
 refine ⟨?_,h.2⟩
 obtain ⟨hl,h0 | ⟨g',cap,cur,rfl,hg,hh,h1,h2,h3,h4⟩⟩:=h.1
 ·exact ⟨hl,.inl h0⟩
 ·exact ⟨hl,.inr ⟨g',cap,cur,rfl,hg,turn_blk ht hh (hk g' rfl),h1,h2,h3,h4⟩⟩
def cfo (s w k d:Int):Bool:=decide (0≤s∧s≤4∧1≤w∧w≤64∧0≤k∧k≤1024∧k % 32=0∧0≤d∧d≤100)
set_option maxHeartbeats 400000 in
theorem grained_any (x:Int) (w:World):
 Calls Tryz.prog 62 #[.int .i64 x] w fun e w'=>e=.returned (.bool (decide (0≤x∧x % 32=0)))∧w=w':=by
 go_enter Tryz.func62,Tryz.ntmps62
 go_wp2
 all_goals
  go_ret
  refine ⟨ret_bool ?_,rfl⟩
  rw [Bool.eq_iff_iff]
  simp
  try omega
set_option maxHeartbeats 400000 in
theorem upTo_any (v m:Int) (w:World):
 Calls Tryz.prog 63 #[.int .i64 v,.int .i64 m] w fun e w'=>e=.returned (.bool (decide (0≤v∧v≤m)))∧w=w':=by
 go_enter Tryz.func63,Tryz.ntmps63
 go_wp2
 all_goals
  go_ret
  refine ⟨ret_bool ?_,rfl⟩
  rw [Bool.eq_iff_iff]
  simp
  try omega
set_option maxHeartbeats 1000000 in
theorem sConfigOk_any (s c k d:Int) (w:World):
 Calls Tryz.prog 11 #[.agg #[.int .i64 s,.int .i64 c,.int .i64 k,.int .i64 d]] w fun e w'=>e=.returned (.bool (cfo s c k d))∧Below w.heap.size w w':=by
 have HB:=hide ((Below.refl w.heap.size w).alloc (Nat.le_refl _) (.cells #[.int .i64 s,.int .i64 c,.int .i64 k,.int .i64 d] 25))
 go_enter Tryz.func11,Tryz.ntmps11
 go_wp2
 all_goals
  go_ret
  refine ⟨ret_bool ?_,HB.out⟩
  unfold cfo
  rw [Bool.eq_iff_iff]
  simp
  try omega
set_option maxHeartbeats 1000000 in
theorem iConfigOk_any (s c k d:Int) (w:World):
 Calls Tryz.prog 10 #[.agg #[.int .i64 s,.int .i64 c,.int .i64 k,.int .i64 d]] w fun e w'=>e=.returned (.bool (cfo s c k d))∧Below w.heap.size w w':=by
 have HB:=hide ((Below.refl w.heap.size w).alloc (Nat.le_refl _) (.cells #[.int .i64 s,.int .i64 c,.int .i64 k,.int .i64 d] 25))
 have HF:∀ b:Bool,b=cfo s c k d ↔ (b=true ↔ (0≤s∧s≤4∧1≤c∧c≤64∧0≤k∧k≤1024∧k % 32=0∧0≤d∧d≤100)):=fun b=>by unfold cfo;rw [Bool.eq_iff_iff];simp
 have HF:=hide HF
 go_enter Tryz.func10,Tryz.ntmps10
 go_wp2_with (first
  | (go_at_call 62;refine (grained_any _ _).mono ?_;rintro e w1 ⟨rfl,rfl⟩)
  | (go_at_call 63;refine (upTo_any _ _ _).mono ?_;rintro e w1 ⟨rfl,rfl⟩))
 all_goals
  go_ret
  refine ⟨ret_bool ?_,HB.out⟩
  rw [HF.out]
  simp_all
  try omega
end Go.Proofs.YtngdgogjlpjjpadGreat
namespace Go.Proofs.YtngdgogjlpjjpadGreat
open Go.RowKit
set_option linter.unusedVariables false
set_option linter.unusedSimpArgs false
set_option maxRecDepth 100000
abbrev inR (L:List Rg) (a:Int):Prop:=∃ g ∈ L,ghas g a=true
theorem oneTo_congr (A B:List Rg) (a k:Int):∀ n,(∀ i,i<n→A.getD i z6=B.getD i z6)→oneTo A a k n=oneTo B a k n
 | 0,_=>rfl
 | n+1,h=>by
   unfold oneTo
   rw [h n (by omega),oneTo_congr A B a k n (fun i hi=>h i (by omega))]
theorem oneTo_snoc (A:List Rg) (g:Rg) (a k:Int):oneTo (A++[g]) a k (A.length+1)=if ghas g a then glets g k else oneTo A a k A.length:=by
 have e:(A++[g]).getD A.length z6=g:=by simp [List.getD_eq_getElem?_getD]
 have e2:oneTo (A++[g]) a k A.length=oneTo A a k A.length:=oneTo_congr _ _ _ _ _ (fun i hi=>by
  rw [List.getD_eq_getElem?_getD,List.getD_eq_getElem?_getD,List.getElem?_append_left hi])
 show (if ghas ((A++[g]).getD A.length z6) a then glets ((A++[g]).getD A.length z6) k else oneTo (A++[g]) a k A.length)=_
 rw [e,e2]
theorem rgt_has (r x y:Bool) (g:Rg) (a:Int):ghas (rgt r x y g) a=ghas g a:=rfl
theorem rgt_lets (r x y:Bool) (g:Rg) (k:Int):glets (rgt r x y g) k=lets r x y k:=rfl
theorem oneTo_rts (r x y:Bool) (a k:Int) (A:List Rg):∀ (n:Nat) (C:List Rg),C.length=n→oneTo (A++rts r x y C) a k (A++rts r x y C).length=if inR C a then lets r x y k else oneTo A a k A.length
 | 0,C,hC=>by
   have:C=[]:=List.eq_nil_of_length_eq_zero hC
   subst this
   simp [rts,inR]
 | n+1,C,hC=>by
   obtain ⟨D,g,rfl⟩:∃ D g,C=D++[g]:=⟨C.dropLast,C.getLast (by intro e;rw [e] at hC;simp at hC),(List.dropLast_concat_getLast _).symm⟩
   have hD:D.length=n:=by simpa using hC
   have e:A++rts r x y (D++[g])=(A++rts r x y D)++[rgt r x y g]:=by simp [rts]
   have el:((A++rts r x y D)++[rgt r x y g]).length=(A++rts r x y D).length+1:=by rw [List.length_append];rfl
   rw [e,el,oneTo_snoc,rgt_has,rgt_lets,oneTo_rts r x y a k A n D hD]
   by_cases hg:ghas g a=true
   ·rw [if_pos hg,if_pos ⟨g,by simp,hg⟩]
   ·rw [if_neg hg]
    have:inR (D++[g]) a ↔ inR D a:=by
     constructor
     ·rintro ⟨z,hz,hza⟩
      rcases List.mem_append.1 hz with hz | hz
      ·exact ⟨z,hz,hza⟩
      ·rw [List.mem_singleton] at hz
       subst hz
       exact absurd hza hg
     ·rintro ⟨z,hz,hza⟩
      exact ⟨z,List.mem_append_left _ hz,hza⟩
    by_cases hd:inR D a
    ·rw [if_pos hd,if_pos (this.2 hd)]
    ·rw [if_neg hd,if_neg (fun h=>hd (this.1 h))]
theorem plan_rights (D S P X:List Rg) (a:Int) (hd:inR X a→¬ inR P a∧¬ inR S a∧¬ inR D a):
 let Z:=(([]++rts true true false D)++rts true true false S++rts false true false P)++rts false false true X
 oneTo Z a 2 Z.length=decide (inR D a∨inR S a∨inR P a)∧oneTo Z a 3 Z.length=decide (inR X a):=by
 intro Z
 have h2:=oneTo_rts false false true a 2 (([]++rts true true false D)++rts true true false S++rts false true false P) X.length X rfl
 have h3:=oneTo_rts false false true a 3 (([]++rts true true false D)++rts true true false S++rts false true false P) X.length X rfl
 rw [oneTo_rts false true false a 2 (([]++rts true true false D)++rts true true false S) P.length P rfl,oneTo_rts true true false a 2 ([]++rts true true false D) S.length S rfl,oneTo_rts true true false a 2 [] D.length D rfl] at h2
 rw [oneTo_rts false true false a 3 (([]++rts true true false D)++rts true true false S) P.length P rfl,oneTo_rts true true false a 3 ([]++rts true true false D) S.length S rfl,oneTo_rts true true false a 3 [] D.length D rfl] at h3
 refine ⟨h2.trans ?_,h3.trans ?_⟩
 ·by_cases hx:inR X a
  ·obtain ⟨n1,n2,n3⟩:=hd hx
   rw [if_pos hx]
   simp [lets,n1,n2,n3]
  ·rw [if_neg hx]
   by_cases hp:inR P a
   ·rw [if_pos hp];simp [lets,hp]
   ·rw [if_neg hp]
    by_cases hs:inR S a
    ·rw [if_pos hs];simp [lets,hs]
    ·rw [if_neg hs]
     by_cases hD:inR D a
     ·rw [if_pos hD];simp [lets,hD]
     ·rw [if_neg hD];simp [oneTo,hD,hs,hp]
 ·by_cases hx:inR X a
  ·rw [if_pos hx];simp [lets,hx]
  ·rw [if_neg hx]
   by_cases hp:inR P a
   ·rw [if_pos hp];simp [lets,hx]
   ·rw [if_neg hp]
    by_cases hs:inR S a
    ·rw [if_pos hs];simp [lets,hx]
    ·rw [if_neg hs]
     by_cases hD:inR D a
     ·rw [if_pos hD];simp [lets,hx]
     ·rw [if_neg hD];simp [oneTo,hx]
end Go.Proofs.YtngdgogjlpjjpadGreat
namespace Go.Proofs.YtngdgogjlpjjpadGreat
open Go.RowKit
set_option linter.unusedVariables false
def set6 (w:World) (g o:Nat) (r:Rg):World:=
 (((((w.setCell ⟨g,o,none⟩ (.int .i64 r.1)).setCell ⟨g,o+1,none⟩ (.int .i64 r.2.1)).setCell ⟨g,o+2,none⟩ (.int .i64 r.2.2.1)).setCell ⟨g,o+3,none⟩ (.bool r.2.2.2.1)).setCell ⟨g,o+4,none⟩ (.bool r.2.2.2.2.1)).setCell ⟨g,o+5,none⟩ (.bool r.2.2.2.2.2)
theorem cell_other {w:World} {g o o' b:Nat} {v:Value} (h:b≠g∨o'≠o):(w.setCell ⟨g,o,none⟩ v).cell? ⟨b,o',none⟩=w.cell? ⟨b,o',none⟩:=
 World.cell?_setCell_other _ _ _ _ (by intro e;injection e;rcases h with h | h <;> simp_all)
theorem cell_same {w:World} {g o:Nat} {u v:Value} (h:w.cell? ⟨g,o,none⟩=some u):(w.setCell ⟨g,o,none⟩ v).cell? ⟨g,o,none⟩=some v:=World.cell?_setCell_same _ _ _ h
theorem set6_other (w:World) (g o b o':Nat) (r:Rg) (h:b≠g∨o'<o∨o+6≤o'):(set6 w g o r).cell? ⟨b,o',none⟩=w.cell? ⟨b,o',none⟩:=by
 unfold set6
 rw [cell_other (by omega),cell_other (by omega),cell_other (by omega),cell_other (by omega),cell_other (by omega),cell_other (by omega)]
theorem set6_at {w:World} {g o:Nat} {q:Rg} (h:At6 w g o q) (r:Rg):At6 (set6 w g o r) g o r:=by
 obtain ⟨h1,h2,h3,h4,h5,h6⟩:=h
 unfold set6
 refine ⟨?_,?_,?_,?_,?_,?_⟩
 ·rw [cell_other (by omega),cell_other (by omega),cell_other (by omega),cell_other (by omega),cell_other (by omega)];exact cell_same h1
 ·rw [cell_other (by omega),cell_other (by omega),cell_other (by omega),cell_other (by omega)];exact cell_same (by rw [cell_other (by omega)];exact h2)
 ·rw [cell_other (by omega),cell_other (by omega),cell_other (by omega)];exact cell_same (by rw [cell_other (by omega),cell_other (by omega)];exact h3)
 ·rw [cell_other (by omega),cell_other (by omega)];exact cell_same (by rw [cell_other (by omega),cell_other (by omega),cell_other (by omega)];exact h4)
 ·rw [cell_other (by omega)];exact cell_same (by rw [cell_other (by omega),cell_other (by omega),cell_other (by omega),cell_other (by omega)];exact h5)
 ·exact cell_same (by rw [cell_other (by omega),cell_other (by omega),cell_other (by omega),cell_other (by omega),cell_other (by omega)];exact h6)
theorem set6_far {w:World} {g o b o':Nat} {q:Rg} (h:At6 w b o' q) (r:Rg) (hf:b≠g∨o'+6≤o∨o+6≤o'):At6 (set6 w g o r) b o' q:=by
 unfold At6
 rw [set6_other _ _ _ _ _ _ (by omega),set6_other _ _ _ _ _ _ (by omega),set6_other _ _ _ _ _ _ (by omega),set6_other _ _ _ _ _ _ (by omega),set6_other _ _ _ _ _ _ (by omega),set6_other _ _ _ _ _ _ (by omega)]
 exact h
theorem set6_blk {w:World} {g:Nat} {cur:Array Value} {t:TypeId} (h:Blk w g cur t) (o:Nat) (r:Rg):∃ cur',Blk (set6 w g o r) g cur' t∧cur'.size=cur.size:=
 ⟨_,((((((h.set o _).set (o+1) _).set (o+2) _).set (o+3) _).set (o+4) _).set (o+5) _),by simp⟩
def RowR (w:World) (g:Nat) (rs:List Rg):Prop:=
 (∃ cur,Blk w g cur 135∧cur.size=rs.length * 6)∧∀ i,i<rs.length→At6 w g (i * 6) (rs.getD i z6)
theorem RowR.lt {w:World} {g:Nat} {rs:List Rg} (h:RowR w g rs):g<w.heap.size:=by obtain ⟨⟨cur,hb,_⟩,_⟩:=h;exact hb.lt
theorem RowR.below {w w':World} {g:Nat} {rs:List Rg} (h:RowR w g rs) (hb:Below w.heap.size w w'):RowR w' g rs:=by
 obtain ⟨⟨cur,hc,hs⟩,hr⟩:=h
 exact ⟨⟨cur,hc.below hb,hs⟩,fun i hi=>(hr i hi).below hb⟩
theorem RowR.frozen {w:World} {g:Nat} {rs:List Rg} (h:RowR w g rs) (i:Nat):w.frozen? ⟨g,i,none⟩=false:=by obtain ⟨⟨cur,hb,_⟩,_⟩:=h;exact hb.frozen i
theorem RowR.set {w:World} {g:Nat} {rs:List Rg} (h:RowR w g rs) (i:Nat) (hi:i<rs.length) (r:Rg):RowR (set6 w g (i * 6) r) g (rs.set i r):=by
 obtain ⟨⟨cur,hc,hs⟩,hr⟩:=h
 obtain ⟨cur',hc',hs'⟩:=set6_blk hc (i * 6) r
 refine ⟨⟨cur',hc',by rw [hs',hs,List.length_set]⟩,fun j hj=>?_⟩
 rw [List.length_set] at hj
 by_cases e:i=j
 ·subst e
  have:(rs.set i r).getD i z6=r:=by simp [List.getD_eq_getElem?_getD,hi]
  rw [this]
  exact set6_at (hr i hi) r
 ·have:(rs.set i r).getD j z6=rs.getD j z6:=by simp [List.getD_eq_getElem?_getD,e]
  rw [this]
  exact set6_far (hr j hj) r (by omega)
theorem RowR.rs {w:World} {g:Nat} {rs:List Rg} (h:RowR w g rs) (hm:rs.length≤maxLen) (hw:∀ g ∈ rs,wfi g.1∧wfi g.2.1∧wfi g.2.2.1) (n cap:Nat) (hn:rs.length=n) (hc:n≤cap:=by exact Nat.le_refl _):RS w (some ⟨g,0,none⟩) n cap rs:=by
 subst hn
 exact ⟨rfl,hm,hw,fun _=>⟨g,0,rfl,fun i hi=>by rw [Nat.zero_add];exact h.2 i hi⟩,hc⟩
def RowW (w:World) (g:Nat) (rs:List Rg):Prop:=
 (∃ cur,Blk w g cur 135)∧∀ i,i<rs.length→At6 w g (i * 6) (rs.getD i z6)
theorem RowW.frozen {w:World} {g:Nat} {rs:List Rg} (h:RowW w g rs) (i:Nat):w.frozen? ⟨g,i,none⟩=false:=by obtain ⟨⟨cur,hb⟩,_⟩:=h;exact hb.frozen i
theorem RowW.set {w:World} {g:Nat} {rs:List Rg} (h:RowW w g rs) (i:Nat) (hi:i<rs.length) (r:Rg):RowW (set6 w g (i * 6) r) g (rs.set i r):=by
 obtain ⟨⟨cur,hc⟩,hr⟩:=h
 obtain ⟨cur',hc',hs'⟩:=set6_blk hc (i * 6) r
 refine ⟨⟨cur',hc'⟩,fun j hj=>?_⟩
 rw [List.length_set] at hj
 by_cases e:i=j
 ·subst e
  have:(rs.set i r).getD i z6=r:=by simp [List.getD_eq_getElem?_getD,hi]
  rw [this]
  exact set6_at (hr i hi) r
 ·have:(rs.set i r).getD j z6=rs.getD j z6:=by simp [List.getD_eq_getElem?_getD,e]
  rw [this]
  exact set6_far (hr j hj) r (by omega)
theorem or_roww {w:World} {base n cap g:Nat} {rs:List Rg} (h:ORg w base (.slice (some ⟨g,0,none⟩) n cap) rs) (hn:n≠0):RowW w g rs:=by
 have hr:=or_rs h
 have hl:=hr.1
 obtain ⟨_,⟨h0,h0'⟩ | ⟨g',cap',cur,hv,hg,hh,h1,h2,h3,h4⟩⟩:=h.1
 ·simp at h0
 ·simp at hv
  obtain ⟨rfl,_⟩:=hv
  exact ⟨⟨cur,hh⟩,fun i hi=>by have:=hr.at i (by omega);rw [Nat.zero_add] at this;exact this⟩
theorem turn_or' {S:Nat→Prop} {base:Nat} {w w':World} {v:Value} {rs:List Rg} (t:Turn S w w') (h:ORg w base v rs) (hk:∀ k,v.ownBlock=some k→¬ S k):ORg w' base v rs:=by
 refine ⟨?_,h.2⟩
 obtain ⟨hl,h0 | ⟨g',cap,cur,rfl,hg,hh,h1,h2,h3,h4⟩⟩:=h.1
 ·exact ⟨hl,.inl h0⟩
 ·exact ⟨hl,.inr ⟨g',cap,cur,rfl,hg,turn_blk t hh (hk g' rfl),h1,h2,h3,h4⟩⟩
theorem or_lt {base:Nat} {w:World} {v:Value} {rs:List Rg} (h:ORg w base v rs) (k:Nat) (hk:v.ownBlock=some k):k<w.heap.size:=by
 obtain ⟨hl,⟨rfl,h0⟩ | ⟨g',cap,cur,rfl,hg,hh,h1,h2,h3,h4⟩⟩:=h.1
 ·cases hk
 ·have e:some g'=some k:=hk
  injection e with e
  subst e
  exact Blk.lt (w:=w) hh
end Go.Proofs.YtngdgogjlpjjpadGreat
