import Derived.Test.YtngdgogjlpjjpadGreatP07
import Derived.Test.YtngdgogjlpjjpadGreatP06
import Derived.Test.YtngdgogjlpjjpadGreatP10
import Derived.Test.YtngdgogjlpjjpadGreatP20
import Derived.Test.YtngdgogjlpjjpadGreatP21
import Derived.Test.YtngdgogjlpjjpadGreatP26
namespace Go.Proofs.YtngdgogjlpjjpadGreat
open Go.RowKit Classical
set_option linter.unusedVariables false
set_option linter.unusedSimpArgs false
set_option maxRecDepth 100000
theorem put4_out (x:List Int) (k p:Nat) (v:Int) (h:p+4≤k∨k+4≤p):((put x k v 4).drop p).take 4=(x.drop p).take 4:=by
 rw [put_desc4]
 apply List.ext_getElem?
 intro j
 simp only [List.getElem?_take,List.getElem?_drop]
 split
 ·rw [List.getElem?_set_ne (by omega),List.getElem?_set_ne (by omega),List.getElem?_set_ne (by omega),List.getElem?_set_ne (by omega)]
 ·rfl
def wat (zs:List Int) (p:Nat):Int:=low ((zs.drop p).take 4)
theorem pour_out (zs:List Int) (k:Nat) (ws:List Int) (p:Nat):∀ m,(p+4≤k∨k+4 * m≤p)→wat (pour zs k ws m) p=wat zs p
 | 0,_=>rfl
 | m+1,h=>by
   have e:=pour_out zs k ws p m (by omega)
   unfold wat at e ⊢
   rw [pour,put4_out _ _ _ _ (by omega)]
   exact e
theorem pour_at (zs:List Int) (k:Nat) (ws:List Int) (n:Nat) (hw:∀ i,i<n→0≤ws.getD i 0∧ws.getD i 0≤4294967295) (hk:k+4 * n≤zs.length):∀ m,m≤n→∀ i,i<m→wat (pour zs k ws m) (k+4 * i)=ws.getD i 0
 | 0,_,i,h=>absurd h (by omega)
 | m+1,hm,i,h=>by
   by_cases e:i=m
   ·subst e
    unfold wat
    rw [pour,low_put4 _ _ _ (by rw [pour_len];omega)]
    have:=hw i (by omega)
    omega
   ·have e:=pour_at zs k ws n hw hk m (by omega) i (by omega)
    unfold wat at e ⊢
    rw [pour,put4_out _ _ _ _ (by omega)]
    exact e
structure Pk (P:PMod) (p:Pl) (A B:Nat):Prop where
 t0:A≤p.text.toNat
 te:p.text.toNat+4 * P.tz.length≤B
 tb:∀ q,q<P.bl.length→p.text.toNat+4 * P.tz.length≤(p.banks.getD q 0).toNat
 bb:∀ q q',q<q'→q'<P.bl.length→(p.banks.getD q 0).toNat+4 * (P.bl.getD q []).length≤(p.banks.getD q' 0).toNat
 be:∀ q,q<P.bl.length→(p.banks.getD q 0).toNat+4 * (P.bl.getD q []).length≤B
theorem pourB_out {P:PMod} {p:Pl} {A B:Nat} (h:Pk P p A B) (zs:List Int) (x:Nat) (hx:x+4≤A):∀ j,j≤P.bl.length→wat (pourB zs P p j) x=wat zs x
 | 0,_=>pour_out _ _ _ _ _ (by have:=h.t0;omega)
 | j+1,hj=>by
   rw [pourB,pour_out _ _ _ _ _ (by have:=h.t0;have:=h.tb j (by omega);omega)]
   exact pourB_out h zs x hx j (by omega)
theorem pourB_text {P:PMod} {p:Pl} {A B:Nat} (h:Pk P p A B) (hm:mdoP P=0) (zs:List Int) (hB:B≤zs.length) (i:Nat) (hi:i<P.tz.length):∀ j,j≤P.bl.length→wat (pourB zs P p j) (p.text.toNat+4 * i)=P.tz.getD i 0
 | 0,_=>pour_at _ _ _ P.tz.length (vld_wd hm).1 (by have:=h.te;omega) _ (Nat.le_refl _) i hi
 | j+1,hj=>by
   rw [pourB,pour_out _ _ _ _ _ (by have:=h.tb j (by omega);omega)]
   exact pourB_text h hm zs hB i hi j (by omega)
theorem pourB_bank {P:PMod} {p:Pl} {A B:Nat} (h:Pk P p A B) (hm:mdoP P=0) (zs:List Int) (hB:B≤zs.length) (q:Nat) (hq:q<P.bl.length) (i:Nat) (hi:i<(P.bl.getD q []).length):∀ j,j≤P.bl.length→q<j→wat (pourB zs P p j) ((p.banks.getD q 0).toNat+4 * i)=(P.bl.getD q []).getD i 0
 | 0,_,hj=>absurd hj (by omega)
 | j+1,hj,hqj=>by
   by_cases e:q=j
   ·subst e
    exact pour_at _ _ _ (P.bl.getD q []).length ((vld_wd hm).2 q hq) (by rw [pourB_len];have:=h.be q hq;omega) _ (Nat.le_refl _) i hi
   ·rw [pourB,pour_out _ _ _ _ _ (by have:=h.bb q j (by omega) (by omega);omega)]
    exact pourB_bank h hm zs hB q hq i hi j (by omega) (by omega)
theorem plc_bank (ps:List PMod) (i q:Nat) (hq:q<(ps.getD i zP).bl.length):(plc ps i).banks.getD q 0=Fl ps i+tsz (ps.getD i zP)+fsum (ps.getD i zP) q:=range_getD _ _ _ _ hq
theorem Lkn.ends {ps:List PMod} {L:Lay} (h:Lkn ps L) (i:Nat) (hi:i<ps.length):0≤Fl ps i∧Fl ps i+4 * ((ps.getD i zP).tz.length:Int)≤Fl ps i+tsz (ps.getD i zP)∧(∀ q,q<(ps.getD i zP).bl.length→0≤fsum (ps.getD i zP) q∧fsum (ps.getD i zP) q+4 * (((ps.getD i zP).bl.getD q []).length:Int)≤fsum (ps.getD i zP) (q+1))∧Fl ps i+tsz (ps.getD i zP)+fsum (ps.getD i zP) (ps.getD i zP).bl.length=Fl ps (i+1)∧0≤tsz (ps.getD i zP)∧0≤fsum (ps.getD i zP) (ps.getD i zP).bl.length:=by
 have hm:=h.v i hi
 have a1:=Fl_range h.v i (by omega)
 have a3:Fl ps (i+1)=Fl ps i+(tsz (ps.getD i zP)+fsum (ps.getD i zP) (ps.getD i zP).bl.length):=rfl
 have a5:=rnd_range (x:=4 * ((ps.getD i zP).tz.length:Int)) (by omega)
 have a6:tsz (ps.getD i zP)=rnd (4 * ((ps.getD i zP).tz.length:Int)):=rfl
 have a7:=fsum_range hm _ (Nat.le_refl _)
 refine ⟨a1.1,by omega,fun q hq=>?_,by omega,by omega,by omega⟩
 have c1:=fsum_range hm q (by omega)
 have c3:fsum (ps.getD i zP) (q+1)=fsum (ps.getD i zP) q+rnd (4 * (((ps.getD i zP).bl.getD q []).length:Int)):=rfl
 have c4:=rnd_range (x:=4 * (((ps.getD i zP).bl.getD q []).length:Int)) (by omega)
 omega
theorem Lkn.pk {ps:List PMod} {L:Lay} (h:Lkn ps L) (i:Nat) (hi:i<ps.length):Pk (ps.getD i zP) (plc ps i) (Fl ps i).toNat (Fl ps (i+1)).toNat:=by
 obtain ⟨e1,e2,e3,e4,e5,e6⟩:=h.ends i hi
 have hm:=h.v i hi
 have et:(plc ps i).text=Fl ps i:=rfl
 refine ⟨by rw [et];exact Nat.le_refl _,by rw [et];omega,fun q hq=>?_,fun q q' hqq hq'=>?_,fun q hq=>?_⟩
 ·rw [plc_bank ps i q hq,et]
  have:=e3 q hq
  omega
 ·rw [plc_bank ps i q (by omega),plc_bank ps i q' hq']
  have:=e3 q (by omega)
  have:=fsum_mono hm (q+1) q' (by omega) (by omega)
  omega
 ·rw [plc_bank ps i q hq]
  have:=e3 q hq
  have:=fsum_mono hm (q+1) _ (by omega) (Nat.le_refl _)
  omega
theorem Lkn.text {ps:List PMod} {L:Lay} (h:Lkn ps L) (i:Nat) (hi:i<ps.length) (j:Nat) (hj:j<(ps.getD i zP).tz.length):∀ n,n≤ps.length→i<n→wat (flB ps L n) ((plc ps i).text.toNat+4 * j)=(ps.getD i zP).tz.getD j 0
 | 0,_,hn=>absurd hn (by omega)
 | n+1,hn,hin=>by
   have hfl:=h.fl
   have hlen:=flB_len ps L n
   have m1:=Fl_mono h.v (n+1) ps.length (by omega) (Nat.le_refl _)
   by_cases e:i=n
   ·subst e
    rw [flB,h.place i hi]
    exact pourB_text (h.pk i hi) (h.v i hi) _ (by omega) j hj _ (Nat.le_refl _)
   ·have h1:=(h.pk i hi).te
    have h2:=Fl_mono h.v (i+1) n (by omega) (by omega)
    rw [flB,h.place n (by omega),pourB_out (h.pk n (by omega)) _ _ (by omega) _ (Nat.le_refl _)]
    exact Lkn.text h i hi j hj n (by omega) (by omega)
theorem Lkn.bank {ps:List PMod} {L:Lay} (h:Lkn ps L) (i:Nat) (hi:i<ps.length) (q:Nat) (hq:q<(ps.getD i zP).bl.length) (j:Nat) (hj:j<((ps.getD i zP).bl.getD q []).length):∀ n,n≤ps.length→i<n→wat (flB ps L n) (((plc ps i).banks.getD q 0).toNat+4 * j)=((ps.getD i zP).bl.getD q []).getD j 0
 | 0,_,hn=>absurd hn (by omega)
 | n+1,hn,hin=>by
   have hfl:=h.fl
   have hlen:=flB_len ps L n
   have m1:=Fl_mono h.v (n+1) ps.length (by omega) (Nat.le_refl _)
   by_cases e:i=n
   ·subst e
    rw [flB,h.place i hi]
    exact pourB_bank (h.pk i hi) (h.v i hi) _ (by omega) q hq j hj _ (Nat.le_refl _) hq
   ·have h1:=(h.pk i hi).be q hq
    have h2:=Fl_mono h.v (i+1) n (by omega) (by omega)
    rw [flB,h.place n (by omega),pourB_out (h.pk n (by omega)) _ _ (by omega) _ (Nat.le_refl _)]
    exact Lkn.bank h i hi q hq j hj n (by omega) (by omega)
set_option maxHeartbeats 2000000 in
theorem lwWords_any (a1 a2 a3:Option Addr) (n1 c1 n2 c2 n3 c3:Nat) (x1 x2 x3:List Int) (p:Int) (a:Option Addr) (n cap:Nat) (ws:List Int) (w:World) (h1:BS w a1 n1 c1 x1) (h2:BS w a2 n2 c2 x2) (hI:IS w a n cap ws) (hp:0≤p∧p≤100000) (hn:n≤1000) (hr:∀ i,i<n→rd n1 n2 n3 x1 x2 (p+4 * (i:Int)) 4=(ws.getD i 0,0)):
 Calls Tryz.prog 16 #[.agg #[.slice a1 n1 c1,.slice a2 n2 c2,.slice a3 n3 c3],.int .i64 p,.slice a n cap] w fun e w'=>e=.returned (.bool true)∧Below w.heap.size w w':=by
 have hB0:Below w.heap.size w (w.alloc (.cells #[.slice a1 n1 c1,.slice a2 n2 c2,.slice a3 n3 c3] 38)):=(Below.refl _ _).alloc (Nat.le_refl _) _
 have k0:=Blk.new w #[.slice a1 n1 c1,.slice a2 n2 c2,.slice a3 n3 c3] 38
 have HR:=hide hr
 have H0:=hide (And.intro hB0 k0)
 have HI:=hide (And.intro hI (And.intro h1 h2))
 clear hr hB0 k0 hI h1 h2
 go_enter Tryz.func16,Tryz.ntmps16
 go_wp2
 go_loopw [7] (fun i wr=>∃ m:Nat,m≤n∧i=.int .i64 m∧Below w.heap.size w wr∧Blk wr w.heap.size #[.slice a1 n1 c1,.slice a2 n2 c2,.slice a3 n3 c3] 38) (fun i _=>n - (intOf i).toNat)
 case atStart=>exact ⟨0,Nat.zero_le _,rfl,H0.out.1,H0.out.2⟩
 case round=>
  obtain ⟨m,hm,rfl,hb,kb⟩:=hrel
  generalize wr=wr1 at *
  clear H0
  by_cases hlt:m<n
  ·have hlt':(m:Int)<(n:Int):=by omega
   obtain ⟨q1,q2,q3,q4⟩:=kb.three
   obtain ⟨hI,h1,h2⟩:=HI.out
   have CC:=iRead_any a1 a2 a3 n1 c1 n2 c2 n3 c3 x1 x2 x3 (p+4 * (m:Int)) 4 wr1 (h1.below hb) (h2.below hb) (by omega)
   rw [HR.out m hlt] at CC
   have HC:=hide CC
   clear CC hI h1 h2
   go_wp2_with fail
   refine HC.out.mono ?_
   rintro e w2 ⟨rfl,hb2⟩
   have hb3:=hb.trans (hb2.mono hb.size)
   have kb3:=kb.below hb2
   obtain ⟨b,off,rfl,hc⟩:=(HI.out.1.below hb3).2.2.2.1 (by omega)
   have q:=hc m hlt
   have HE:=hide (And.intro hb3 kb3)
   clear hb hb2 kb kb3 hb3 hc HC
   generalize ws.getD m 0=v at *
   go_wp2
   go_roundw
   case rel=>exact ⟨m+1,by omega,by go_num,HE.out.1,HE.out.2⟩
   case measure=>simp [intOf];omega
  ·have hlt':¬ (m:Int)<(n:Int):=by omega
   have HE:=hide hb
   clear hb kb
   go_wp2
   go_ret
   exact ⟨rfl,HE.out⟩
theorem rd_fl {n1 n2 n3:Nat} {x1 x2:List Int} {p:Int} (hm:mok n1 n2 n3=true) (h0:0≤p) (h4:p % 4=0) (h1:p+4≤(n1:Int)):rd n1 n2 n3 x1 x2 p 4=(wat x1 p.toNat,0):=by
 have hl:=(mok1 hm).1
 have t:p.tmod 4=0:=by rw [Int.tmod_eq_emod_of_nonneg h0];exact h4
 unfold rd
 rw [if_pos ⟨hm,by decide⟩,if_neg (by simp [t]),if_neg (by omega),if_pos (by unfold ins;simp;omega)]
 rfl
theorem rnd_m32 (x:Int):rnd x % 32=0:=by unfold rnd;omega
theorem fsum_m32 (P:PMod):∀ k,fsum P k % 32=0
 | 0=>rfl
 | k+1=>by
   have h1:=fsum_m32 P k
   have h2:=rnd_m32 (4 * ((P.bl.getD k []).length:Int))
   show (fsum P k+rnd (4 * ((P.bl.getD k []).length:Int))) % 32=0
   omega
theorem tsz_m32 (P:PMod):tsz P % 32=0:=rnd_m32 _
theorem Fl_m32 (ps:List PMod):∀ i,Fl ps i % 32=0
 | 0=>rfl
 | i+1=>by
   have h1:=Fl_m32 ps i
   have h2:=tsz_m32 (ps.getD i zP)
   have h3:=fsum_m32 (ps.getD i zP) (ps.getD i zP).bl.length
   show (Fl ps i+(tsz (ps.getD i zP)+fsum (ps.getD i zP) (ps.getD i zP).bl.length)) % 32=0
   omega
structure Mq (w W:World) (r:Nat) (a:Option Addr) (n c:Nat) (zs:List Int) (k:Nat) (v:Value) (L:List (PMod × Ma)):Prop where
 d:Dst w W r a n c zs k
 o:OG 49 8 clM W w.heap.size v L
 m:∀ (i:Nat) (x:PMod × Ma),L[i]?=some x→MO W w.heap.size x.1 x.2∧DoR x.1
 hl:L.length≤5
def MqP (w:World) (r:Nat) (a:Option Addr) (n c:Nat) (zs:List Int) (e:Ending) (w':World):Prop:=∃ (v:Value) (L:List (PMod × Ma)) (k':Nat),e=.returned v∧Mq w w' r a n c zs k' v L
theorem Mq.below {w W W':World} {r:Nat} {a:Option Addr} {n c:Nat} {zs:List Int} {k:Nat} {v:Value} {L:List (PMod × Ma)} (h:Mq w W r a n c zs k v L) (hb:Below W.heap.size W W'):Mq w W' r a n c zs k v L:=⟨h.d.below hb,h.o.below hb,fun i x hx=>⟨(h.m i x hx).1.below hb,(h.m i x hx).2⟩,h.hl⟩
theorem Mq.turn {w W W':World} {r:Nat} {a:Option Addr} {n c:Nat} {zs:List Int} {k k':Nat} {v:Value} {L:List (PMod × Ma)} (h:Mq w W r a n c zs k v L) (ht:Turn (fun j=>j=r) W W') (d:Dst w W' r a n c zs k'):Mq w W' r a n c zs k' v L:=
 ⟨d,h.o.turn ht (fun j hj=>by have:=h.d.lt;omega),fun i x hx=>⟨(h.m i x hx).1.kept ht (fun j hj=>.inl (by subst hj;exact h.d.lt)),(h.m i x hx).2⟩,h.hl⟩
theorem Mq.of {w W W2:World} {r:Nat} {a:Option Addr} {n c:Nat} {zs:List Int} {k k':Nat} {v:Value} {L:List (PMod × Ma)} (D:Dst w W r a n c zs k) (h:Mst W W2 r a n c zs k' v L) (hP:∀ (i:Nat) (x:PMod × Ma),L[i]?=some x→DnR x.1) (hl:L.length≤5):Mq w W2 r a n c zs k' v L:=
 ⟨D.trans h.d,h.o.mono D.sz,fun i x hx=>⟨(h.m i x hx).1.mono D.sz,(hP i x hx).dor⟩,hl⟩
theorem og_cell8 {W:World} {base i g m cap:Nat} {L:List (PMod × Ma)} {x:PMod × Ma} (h:OG 49 8 clM W base (.slice (some ⟨g,0,none⟩) m cap) L) (hx:L[i]?=some x) (j:Nat) (hj:j<8) (u:Value) (hu:(clM x)[j]?=some u):W.cell? ⟨g,i * 8+j,none⟩=some u:=by
 obtain ⟨hl,h0 | ⟨g',cap',cur,hv,hg,hh,h1,h2,h3,h4⟩⟩:=h
 ·simp at h0
 ·simp only [Value.slice.injEq,Option.some.injEq,Addr.mk.injEq,and_true,true_and] at hv
  obtain ⟨rfl,rfl,rfl⟩:=hv
  have hb:Blk W g cur 49:=hh
  rw [hb.cell]
  have e:=flat_get8 L i x hx j hj
  have hi:i<L.length:=by rcases Nat.lt_or_ge i L.length with h | h;exact h;rw [List.getElem?_eq_none h] at hx;simp at hx
  rw [← h4,List.getElem?_take,if_pos (by omega),hu] at e
  rw [← e]
  simp
theorem og_frz8 {W:World} {base g m cap:Nat} {L:List (PMod × Ma)} (h:OG 49 8 clM W base (.slice (some ⟨g,0,none⟩) m cap) L) (j:Nat):W.frozen? ⟨g,j,none⟩=false:=by
 obtain ⟨cs,b⟩:=own_kind h (k:=g) rfl
 exact b.frozen j
theorem og_first8 {W:World} {base g m cap:Nat} {L:List (PMod × Ma)} {x:PMod × Ma} (h:OG 49 8 clM W base (.slice (some ⟨g,0,none⟩) m cap) (x :: L)):(W.cell? ⟨g,0,none⟩=some (.string x.1.nm)∧W.cell? ⟨g,1,none⟩=some (.slice x.2.a1 x.1.tz.length x.2.c1)∧W.cell? ⟨g,2,none⟩=some (.slice x.2.a2 x.2.bl.length x.2.c2)∧W.cell? ⟨g,3,none⟩=some (.slice x.2.a3 x.1.dz.length x.2.c3)∧W.cell? ⟨g,4,none⟩=some (.int .i64 x.1.bss)∧W.cell? ⟨g,5,none⟩=some (.slice x.2.a5 x.1.rz.length x.2.c5)∧W.cell? ⟨g,6,none⟩=some (.slice x.2.a6 x.1.ss.length x.2.c6)∧W.cell? ⟨g,7,none⟩=some (.slice x.2.a7 x.1.es.length x.2.c7))∧W.frozen? ⟨g,0,none⟩=false∧W.frozen? ⟨g,1,none⟩=false∧W.frozen? ⟨g,2,none⟩=false∧W.frozen? ⟨g,3,none⟩=false∧W.frozen? ⟨g,4,none⟩=false∧W.frozen? ⟨g,5,none⟩=false∧W.frozen? ⟨g,6,none⟩=false∧W.frozen? ⟨g,7,none⟩=false:=by
 have c:∀ j,j<8→∀ u,(clM x)[j]?=some u→W.cell? ⟨g,j,none⟩=some u:=fun j hj u hu=>by
  have:=og_cell8 h (i:=0) (x:=x) rfl j hj u hu
  simpa using this
 exact ⟨⟨c 0 (by omega) _ rfl,c 1 (by omega) _ rfl,c 2 (by omega) _ rfl,c 3 (by omega) _ rfl,c 4 (by omega) _ rfl,c 5 (by omega) _ rfl,c 6 (by omega) _ rfl,c 7 (by omega) _ rfl⟩,og_frz8 h 0,og_frz8 h 1,og_frz8 h 2,og_frz8 h 3,og_frz8 h 4,og_frz8 h 5,og_frz8 h 6,og_frz8 h 7⟩
theorem Mq.cells {w W:World} {r:Nat} {a:Option Addr} {n c:Nat} {zs:List Int} {k i g m cap:Nat} {L:List (PMod × Ma)} {x:PMod × Ma} (h:Mq w W r a n c zs k (.slice (some ⟨g,0,none⟩) m cap) L) (hx:L[i]?=some x) (j:Nat) (hj:j<8) (u:Value) (hu:(clM x)[j]?=some u):W.cell? ⟨g,i * 8+j,none⟩=some u:=og_cell8 h.o hx j hj u hu
theorem Mq.frz {w W:World} {r:Nat} {a:Option Addr} {n c:Nat} {zs:List Int} {k g m cap:Nat} {L:List (PMod × Ma)} (h:Mq w W r a n c zs k (.slice (some ⟨g,0,none⟩) m cap) L) (j:Nat):W.frozen? ⟨g,j,none⟩=false:=og_frz8 h.o j
theorem MO.rb_kind {W:World} {base:Nat} {x:PMod × Ma} (h:MO W base x.1 x.2) (b:Nat) (hb:rb x b):∃ cs t,Blk W b cs t∧t≠9∧t≠5∧t≠49:=by
 rcases hb with e | e | e | e | ⟨B,hB,e⟩
 ·obtain ⟨cs,k⟩:=own_kind h.t e;exact ⟨cs,_,k,by decide,by decide,by decide⟩
 ·obtain ⟨cs,k⟩:=own_kind h.b.head e;exact ⟨cs,_,k,by decide,by decide,by decide⟩
 ·obtain ⟨cs,k⟩:=own_kind h.r e;exact ⟨cs,_,k,by decide,by decide,by decide⟩
 ·obtain ⟨cs,k⟩:=own_kind h.e e;exact ⟨cs,_,k,by decide,by decide,by decide⟩
 ·obtain ⟨cs,k⟩:=own_kind (h.b.rows B hB).2 e;exact ⟨cs,_,k,by decide,by decide,by decide⟩
theorem row_keep {S:Nat→Prop} {W W':World} {base:Nat} {t:TypeId} {sz n:Nat} {v:Value} {xs:List Value} (ho:W.ownsRow base t sz v n xs) (ht:Turn S W W') (hk:∀ k,v.ownBlock=some k→¬ S k):W'.ownsRow base t sz v n xs:=by
 obtain ⟨hl,h0 | ⟨g,cap,cur,hv,hg,hh,h1,h2,h3,h4⟩⟩:=ho
 ·exact ⟨hl,.inl h0⟩
 ·exact ⟨hl,.inr ⟨g,cap,cur,hv,hg,turn_blk (w:=W) ht hh (hk g (by rw [hv];rfl)),h1,h2,h3,h4⟩⟩
theorem MO.keep {S:Nat→Prop} {W W':World} {base:Nat} {x:PMod × Ma} (h:MO W base x.1 x.2) (ht:Turn S W W') (h1:∀ b,rb x b→¬ S b) (h3:∀ b,(Value.slice x.2.a3 x.1.dz.length x.2.c3).ownBlock=some b→¬ S b) (h6:∀ b,own6 x=some b→¬ S b):MO W' base x.1 x.2:=
 ⟨row_keep h.t ht (fun b e=>h1 b (.inl e)),⟨row_keep h.b.head ht (fun b e=>h1 b (.inr (.inl e))),fun B hB=>⟨(h.b.rows B hB).1,row_keep (h.b.rows B hB).2 ht (fun b e=>h1 b (.inr (.inr (.inr (.inr ⟨B,hB,e⟩)))))⟩,h.b.apart⟩,h.bls,⟨row_keep h.d.1 ht h3,h.d.2⟩,row_keep h.r ht (fun b e=>h1 b (.inr (.inr (.inl e)))),row_keep h.i ht h6,row_keep h.e ht (fun b e=>h1 b (.inr (.inr (.inr (.inl e))))),h.tb,h.tr,h.br⟩
def spU (W:World) (x:PMod × Ma) (j:Nat):Prop:=W.heap.size≤j∨rb x j∨own6 x=some j
theorem spU_ru (W:World) (x:PMod × Ma):Ru (spU W x) x.2:=
 ⟨fun j e=>.inr (.inl (.inl (by rw [own_z];exact e))),fun j e=>.inr (.inl (.inr (.inl (by rw [own_z];exact e)))),fun j e=>.inr (.inl (.inr (.inr (.inl (by rw [own_z];exact e))))),fun j e=>.inr (.inr (by unfold own6;rw [own_z];exact e)),fun j e=>.inr (.inl (.inr (.inr (.inr (.inl (by rw [own_z];exact e))))))⟩
theorem Mst.others {w W W':World} {r:Nat} {a:Option Addr} {n c:Nat} {zs:List Int} {k:Nat} {v:Value} {L:List (PMod × Ma)} {x y:PMod × Ma} {i:Nat} (h:Mst w W r a n c zs k v L) (hx:L[0]?=some x) (hy:L[i]?=some y) (hi:i≠0) (ht:Turn (fun j=>j=r∨spU W x j) W W'):MO W' w.heap.size y.1 y.2:=by
 have mx:=(h.m 0 x hx).1
 have my:=(h.m i y hy).1
 have hr:=h.d.lt
 have key:∀ {t:TypeId} {cs:Array Value} {b:Nat},Blk W b cs t→t=9∨t=5∨t=49→¬ rb x b:=fun hb hk hrb=>by
  obtain ⟨cs',t',k',n1,n2,n3⟩:=mx.rb_kind _ hrb
  have e:=blk_kind hb k'
  subst e
  rcases hk with e | e | e
  ·exact n1 e
  ·exact n2 e
  ·exact n3 e
 have k6:∀ {t:TypeId} {cs:Array Value} {b:Nat},Blk W b cs t→t≠9→own6 x≠some b:=fun hb hk e=>by
  obtain ⟨cs',k'⟩:=own_kind mx.i e
  exact hk (blk_kind hb k')
 refine my.keep ht (fun b hb s=>?_) (fun b hb s=>?_) (fun b hb s=>?_)
 ·have h1:=my.rb_lt b hb
  rcases s with s | s | s | s
  ·omega
  ·omega
  ·exact h.sp 0 i x y hx hy (fun e=>hi e.symm) b s hb
  ·obtain ⟨cs,t,kb,n1,n2,n3⟩:=my.rb_kind b hb
   exact k6 kb n1 s
 ·have h1:=World.ownsRow.lt my.d.1 b hb
  obtain ⟨cs,kb⟩:=own_kind my.d.1 hb
  rcases s with s | s | s | s
  ·omega
  ·omega
  ·exact key kb (.inr (.inl rfl)) s
  ·exact k6 kb (by decide) s
 ·have h1:=my.i.lt b hb
  obtain ⟨cs,kb⟩:=own_kind my.i hb
  rcases s with s | s | s | s
  ·omega
  ·omega
  ·exact key kb (.inl rfl) s
  ·exact h.ap 0 i x y hx hy (fun e=>hi e.symm) b s hb
theorem Mst.row {w W W':World} {r:Nat} {a:Option Addr} {n c:Nat} {zs:List Int} {k:Nat} {v:Value} {L:List (PMod × Ma)} {x:PMod × Ma} (h:Mst w W r a n c zs k v L) (hx:L[0]?=some x) (ht:Turn (fun j=>j=r∨spU W x j) W W'):OG 49 8 clM W' w.heap.size v L:=by
 have mx:=(h.m 0 x hx).1
 have hr:=h.d.lt
 refine row_keep h.o ht (fun b hb s=>?_)
 have h1:=h.o.lt b hb
 obtain ⟨cs,kb⟩:=own_kind h.o hb
 rcases s with s | s | s | s
 ·omega
 ·omega
 ·obtain ⟨cs',t',k',n1,n2,n3⟩:=mx.rb_kind _ s
  exact n3 (blk_kind k' kb)
 ·obtain ⟨cs',k'⟩:=own_kind mx.i s
  exact absurd (blk_kind k' kb) (by decide)
theorem row_first {W:World} {base g m cap:Nat} {x y:PMod × Ma} {L:List (PMod × Ma)} (h:OG 49 8 clM W base (.slice (some ⟨g,0,none⟩) m cap) (x :: L)) (hm:(x :: L).length=m):OG 49 8 clM (st8 W g (.string y.1.nm) (.slice y.2.a1 y.1.tz.length y.2.c1) (.slice y.2.a2 y.2.bl.length y.2.c2) (.slice y.2.a3 y.1.dz.length y.2.c3) (.int .i64 y.1.bss) (.slice y.2.a5 y.1.rz.length y.2.c5) (.slice y.2.a6 y.1.ss.length y.2.c6) (.slice y.2.a7 y.1.es.length y.2.c7)) base (.slice (some ⟨g,0,none⟩) m cap) (y :: L):=by
 unfold OG at h ⊢
 rw [hm] at h
 rw [show (y :: L).length=m from hm]
 have:=owns_set (owns_set (owns_set (owns_set (owns_set (owns_set (owns_set (owns_set h 0 (.string y.1.nm)) 1 (.slice y.2.a1 y.1.tz.length y.2.c1)) 2 (.slice y.2.a2 y.2.bl.length y.2.c2)) 3 (.slice y.2.a3 y.1.dz.length y.2.c3)) 4 (.int .i64 y.1.bss)) 5 (.slice y.2.a5 y.1.rz.length y.2.c5)) 6 (.slice y.2.a6 y.1.ss.length y.2.c6)) 7 (.slice y.2.a7 y.1.es.length y.2.c7)
 have e:((((((((((x :: L).flatMap clM).set 0 (.string y.1.nm)).set 1 (.slice y.2.a1 y.1.tz.length y.2.c1)).set 2 (.slice y.2.a2 y.2.bl.length y.2.c2)).set 3 (.slice y.2.a3 y.1.dz.length y.2.c3)).set 4 (.int .i64 y.1.bss)).set 5 (.slice y.2.a5 y.1.rz.length y.2.c5)).set 6 (.slice y.2.a6 y.1.ss.length y.2.c6)).set 7 (.slice y.2.a7 y.1.es.length y.2.c7))=(y :: L).flatMap clM:=by
  simp [clM]
 rw [e] at this
 exact this
theorem Mq.spoilt {w W W':World} {r:Nat} {a:Option Addr} {n c:Nat} {zs:List Int} {k k' g m cap:Nat} {L:List (PMod × Ma)} {x y:PMod × Ma} {kk:Nat} {W0:World} (D:Dst W0 w r a n c zs kk) (h:Mst w W r a n c zs k (.slice (some ⟨g,0,none⟩) m cap) (x :: L)) (hm:(x :: L).length=m) (hP:∀ (i:Nat) (x':PMod × Ma),(x :: L)[i]?=some x'→DnR x'.1) (hl:(x :: L).length≤5) (d:Dst w W' r a n c zs k') (ht:Turn (fun j=>j=r∨spU W x j) W W') (mo:MO W' w.heap.size y.1 y.2) (Y:DoR y.1):
 Mq W0 (st8 W' g (.string y.1.nm) (.slice y.2.a1 y.1.tz.length y.2.c1) (.slice y.2.a2 y.2.bl.length y.2.c2) (.slice y.2.a3 y.1.dz.length y.2.c3) (.int .i64 y.1.bss) (.slice y.2.a5 y.1.rz.length y.2.c5) (.slice y.2.a6 y.1.ss.length y.2.c6) (.slice y.2.a7 y.1.es.length y.2.c7)) r a n c zs k' (.slice (some ⟨g,0,none⟩) m cap) (y :: L):=by
 have hg:=(h.o.lt g rfl).1
 have o1:=h.row (x:=x) rfl ht
 have kb:∀ j,j=g→∃ cs,Blk W' j cs 49:=fun j hj=>by subst hj;exact own_kind o1 rfl
 have hs:=D.sz
 refine ⟨(D.trans d).grow ((turn_st8 W' g _ _ _ _ _ _ _ _).mono (fun j hj=>by subst hj;omega)),(row_first o1 hm).mono hs,fun i z hz=>?_,hl⟩
 cases i with
 | zero=>
   have e:y=z:=by simpa using hz
   subst e
   exact ⟨(mo.kept (turn_st8 W' g _ _ _ _ _ _ _ _) (fun j hj=>.inr (kb j hj))).mono hs,Y⟩
 | succ i=>
   have hz':(x :: L)[i+1]?=some z:=hz
   exact ⟨((h.others rfl hz' (by omega) ht).kept (turn_st8 W' g _ _ _ _ _ _ _ _) (fun j hj=>.inr (kb j hj))).mono hs,(hP _ _ hz').dor⟩
theorem Mq.push {w W w' wa:World} {r:Nat} {a:Option Addr} {n c:Nat} {zs:List Int} {k:Nat} {v v':Value} {L:List (PMod × Ma)} {x:PMod × Ma} (h:Mq w wa r a n c zs k v L) (mo:MO wa w.heap.size x.1 x.2) (X:DoR x.1) (hl:L.length≤4)
 (hown:w'.ownsRow w.heap.size 49 8 v' (L.length+1) (L.flatMap clM++clM x)) (hg:wa.grownBy w' v.ownBlock):Mq w w' r a n c zs k v' (L++[x]):=by
 refine ⟨h.d.grown hg (fun j hj=>(h.o.lt j hj).1),?_,fun i y hy=>?_,by simp;omega⟩
 ·unfold OG
  rw [List.length_append,List.flatMap_append]
  simpa using hown
 ·rcases get_snoc hy with hy | ⟨_,rfl⟩
  ·exact ⟨(h.m i y hy).1.grownM h.o hg,(h.m i y hy).2⟩
  ·exact ⟨mo.grownM h.o hg,X⟩
theorem Mq.nil {w W:World} {r:Nat} {a:Option Addr} {n c:Nat} {zs:List Int} {k g m cap:Nat} {L:List (PMod × Ma)} (h:Mq w W r a n c zs k (.slice (some ⟨g,0,Option.none⟩) m cap) L):Mq w W r a n c zs k (.slice (some ⟨g,0,Option.none⟩) 0 cap) []:=by
 refine ⟨h.d,?_,fun i x hx=>by simp at hx,by simp⟩
 obtain ⟨hl,h0 | ⟨g',cap',cur,hv,hg,hh,h1,h2,h3,h4⟩⟩:=h.o
 ·simp at h0
 ·simp only [Value.slice.injEq,Option.some.injEq,Addr.mk.injEq,and_true,true_and] at hv
  obtain ⟨rfl,rfl,rfl⟩:=hv
  exact ⟨rfl,.inr ⟨g,cap,cur,rfl,hg,hh,Nat.zero_le _,h2,h3,by simp⟩⟩
theorem w64in (n:Int) (h:-9223372036854775808≤n∧n≤9223372036854775807):wrap64 n=n:=by unfold wrap64;omega
theorem lkc_all {ps:List PMod} {s w k d:Int}:lkc ps s w k d=0 ↔ cfo s w k d=true∧1≤ps.length∧ps.length≤4∧vlds ps∧nms ps∧imps ps∧(0<s→shrt ps w)∧(lay ps s w k).flash≤16384∧(lay ps s w k).ram≤16384:=by
 constructor
 ·intro h
  unfold lkc snd4 at h
  by_cases c1:cfo s w k d=false
  ·rw [if_pos c1] at h;simp at h
  rw [if_neg c1] at h
  by_cases c2:ps.length<1∨4<ps.length
  ·rw [if_pos c2] at h;simp at h
  rw [if_neg c2] at h
  by_cases c3:¬ vlds ps
  ·rw [if_pos c3] at h;simp at h
  rw [if_neg c3] at h
  by_cases c4:¬ nms ps
  ·rw [if_pos c4] at h;simp at h
  rw [if_neg c4,if_neg (by simp)] at h
  by_cases c5:¬ imps ps
  ·rw [if_pos c5] at h;simp at h
  rw [if_neg c5] at h
  by_cases c6:0<s∧¬ shrt ps w
  ·rw [if_pos c6] at h;simp at h
  rw [if_neg c6] at h
  by_cases c7:16384<(lay ps s w k).flash
  ·rw [if_pos c7] at h;simp at h
  rw [if_neg c7] at h
  by_cases c8:16384<(lay ps s w k).ram
  ·rw [if_pos c8] at h;simp at h
  exact ⟨by simpa using c1,by omega,by omega,Classical.not_not.1 c3,Classical.not_not.1 c4,Classical.not_not.1 c5,fun h=>Classical.not_not.1 (fun e=>c6 ⟨h,e⟩),by omega,by omega⟩
 ·rintro ⟨h1,h2,h3,h4,h5,h6,h7,h8,h9⟩
  have e0:snd4 ps s w k d=0:=by unfold snd4;rw [if_neg (by simp [h1]),if_neg (by omega),if_neg (fun e=>e h4),if_neg (fun e=>e h5)]
  unfold lkc
  rw [if_neg (by rw [e0];simp),if_neg (fun e=>e h6),if_neg (fun e=>e.2 (h7 e.1)),if_neg (by omega),if_neg (by omega)]
theorem lay_w {ps:List PMod} {s w w' k:Int} (h:s=0∨rnd (4 * w)=rnd (4 * w')):lay ps s w k=lay ps s w' k:=by
 rcases h with rfl | h
 ·simp [lay]
 ·have e:slt ps w k=slt ps w' k:=by funext i;unfold slt;rw [h]
  unfold lay
  rw [h,e]
theorem lok_lk {ps:List PMod} {s w k d:Int} (h:lkc ps s w k d=0):Lok ps (lay ps s w k):=by
 obtain ⟨h1,h2,h3,h4,h5,h6,h7,h8,h9⟩:=lkc_all.1 h
 have hc:=h1
 unfold cfo at hc
 simp at hc
 obtain ⟨s0,s1,w0,w1,k0,k1,k2,d0,d1⟩:=hc
 have a1:=Ra_range h4 ps.length (Nat.le_refl _)
 have a4:=rnd_range (x:=4 * w) (by omega)
 have hr:(lay ps s w k).ram=Ra ps ps.length+k+(s.toNat:Int) * rnd (4 * w):=rfl
 have ht:(lay ps s w k).stack=65536+Ra ps ps.length:=rfl
 have hl:(lay ps s w k).slots.length=s.toNat:=by simp [lay]
 have main:∀ w',cfW (lay ps s w k)=w'→(s=0∨rnd (4 * w)=rnd (4 * w'))→1≤w'→w'≤64→(0<s→w≤w')→cfK (lay ps s w k)=k→Lok ps (lay ps s w k):=by
  intro w' e1 e2 e3 e4 e5 e6
  have el:=lay_w (ps:=ps) (k:=k) e2
  have hs:((s.toNat:Nat):Int)=s:=by omega
  have hz:lkc ps s w' k 0=0:=lkc_all.2 ⟨by unfold cfo;simp;omega,h2,h3,h4,h5,h6,fun hs i hi j hj=>Int.le_trans (h7 hs i hi j hj) (e5 hs),by rw [← el];exact h8,by rw [← el];exact h9⟩
  unfold Lok
  rw [hl,hs,e1,e6]
  exact ⟨hz,by unfold lkL;rw [if_pos hz,el]⟩
 by_cases c:s=0
 ·subst c
  have e0:(lay ps 0 w k).slots=[]:=by simp [lay]
  have hr0:(lay ps 0 w k).ram=Ra ps ps.length+k:=by rw [hr];simp
  refine main 1 (by unfold cfW;rw [if_pos e0]) (.inl rfl) (by omega) (by omega) (fun h=>absurd h (by omega)) ?_
  unfold cfK endOf
  rw [if_pos e0,hr0,ht,w64in (65536+(Ra ps ps.length+k)) (by omega),w64in _ (by omega)]
  omega
 ·have hp:0<s.toNat:=by omega
  have hne:¬ (lay ps s w k).slots=[]:=fun e=>by rw [e] at hl;simp at hl;omega
  have e0:(lay ps s w k).slots.getD 0 0=65536+Ra ps ps.length+k:=by
   simp [lay,List.getD_eq_getElem?_getD,hp,slt]
  have hm:(s.toNat:Int) * rnd (4 * w)≤4 * 287:=Int.mul_le_mul (by omega) (by omega) (by omega) (by omega)
  have hm0:(0:Int)≤(s.toNat:Int) * rnd (4 * w):=Int.mul_nonneg (by omega) (by omega)
  have eq:cfQ (lay ps s w k)=rnd (4 * w):=by
   unfold cfQ
   rw [hr,e0,hl,w64in (65536+_) (by omega),w64in (65536+_ - _) (by omega),show 65536+(Ra ps ps.length+k+(s.toNat:Int) * rnd (4 * w)) - (65536+Ra ps ps.length+k)=rnd (4 * w) * (s.toNat:Int) by rw [Int.mul_comm (rnd (4 * w))];omega,Int.mul_tdiv_cancel _ (by omega),w64in _ (by omega)]
  have hrn:rnd (4 * w)=(4 * w+31) / 32 * 32:=rfl
  refine main (rnd (4 * w) / 4) ?_ (.inr ?_) (by omega) (by omega) (fun _=>by omega) ?_
  ·unfold cfW
   rw [if_neg hne,eq,Int.tdiv_eq_ediv_of_nonneg (by omega),w64in _ (by omega)]
  ·rw [hrn];unfold rnd;omega
  ·unfold cfK endOf
   rw [if_neg hne,e0,ht,w64in _ (by omega)]
   omega
theorem MO.md2 {W:World} {base:Nat} {P:PMod} {M:Ma} (h:MO W base P M) (R:DoR P):
 MD W P.nm M.a1 P.tz.length M.c1 P.tz M.a2 M.bl.length M.c2 M.bl M.a3 P.dz.length M.c3 P.dz P.bss M.a5 P.rz.length M.c5 P.rz M.a6 P.ss.length M.c6 P.ss M.a7 P.es.length M.c7 P.es where
 n:=by have:=R.n;omega
 t:=og_is h.t (fun z hz=>by have:=R.t.2 z hz;unfold wfi;omega)
 b:=obk_bks h.b (fun B hB z hz=>by
  have hm:B.2.2.2 ∈ P.bl:=by rw [← h.bls];exact List.mem_map.2 ⟨B,hB,rfl⟩
  have:=(R.b.2 _ hm).2 z hz
  unfold wfi
  omega)
 d:=h.d.bs
 s:=by have:=R.s;unfold wfi;omega
 r:=og_is h.r (fun z hz=>by have:=R.r.2 z hz;unfold wfi;omega)
 i:=og_ss h.i (fun s hs=>by have:=R.i.2 s hs;omega)
 e:=og_es h.e (fun s hs=>by have:=(R.e.2 s hs).1;omega)
theorem mt_of_md2 {nm:ByteArray} {ta:Option Addr} {tn tc:Nat} {tz:List Int} {ba:Option Addr} {bn bc:Nat} {bl:List Bk} {da:Option Addr} {dn dc:Nat} {dz:List Int} {bss:Int} {ra:Option Addr} {rn rc:Nat} {rz:List Int} {ia:Option Addr} {im ic:Nat} {ss:List ByteArray} {ea:Option Addr} {en ec:Nat} {es:List Ex} {w:World} (h:MD w nm ta tn tc tz ba bn bc bl da dn dc dz bss ra rn rc rz ia im ic ss ea en ec es):MT w nm ta tn tc tz ba bn bc bl da dn dc dz bss ra rn rc rz ia im ic ss ea en ec es where
 n:=by have:=h.n;unfold maxLen;omega
 t:=h.t
 b:=h.b
 d:=h.d
 s:=h.s
 r:=h.r
 i:=by
  obtain ⟨h1,h2,h3,h4,h5⟩:=h.i
  refine ⟨h1,h2,fun i=>?_,h4,h5⟩
  by_cases hi:i<ss.length
  ·have:=h3 (ss.getD i zS) (by simp [List.getD_eq_getElem?_getD,hi])
   unfold maxLen;omega
  ·rw [List.getD_eq_getElem?_getD,List.getElem?_eq_none (by omega)]
   decide
 e:=by
  obtain ⟨h1,h2,h3,h4,h5⟩:=h.e
  refine ⟨h1,h2,fun i=>?_,h4,h5⟩
  by_cases hi:i<es.length
  ·have:=h3 (es.getD i zE) (by simp [List.getD_eq_getElem?_getD,hi])
   unfold maxLen;omega
  ·rw [List.getD_eq_getElem?_getD,List.getElem?_eq_none (by omega)]
   decide
def mdOf (x:PMod × Ma):Md:=⟨x.1.nm,x.2.a1,x.1.tz.length,x.2.c1,x.1.tz,x.2.a2,x.2.bl.length,x.2.c2,x.2.bl,x.2.a3,x.1.dz.length,x.2.c3,x.1.dz,x.1.bss,x.2.a5,x.1.rz.length,x.2.c5,x.1.rz,x.2.a6,x.1.ss.length,x.2.c6,x.1.ss,x.2.a7,x.1.es.length,x.2.c7,x.1.es⟩
theorem dk_msd {W:World} {base:Nat} {v:Value} {L:List (PMod × Ma)} (o:OG 49 8 clM W base v L) (m:∀ (i:Nat) (x:PMod × Ma),L[i]?=some x→MO W base x.1 x.2∧DoR x.1) (hl:L.length≤5):∃ a cap,v=.slice a L.length cap∧MSD W a L.length cap (L.map mdOf):=by
 obtain ⟨a,cap,rfl⟩:=og_shape o
 refine ⟨a,cap,rfl,?_⟩
 have hg:∀ i,i<L.length→∃ x,L[i]?=some x∧(L.map mdOf).getD i zMd=mdOf x:=fun i hi=>⟨L[i],List.getElem?_eq_getElem hi,by simp [List.getD_eq_getElem?_getD,hi]⟩
 have hd:∀ i,i<L.length→((L.map mdOf).getD i zMd).md W:=fun i hi=>by
  obtain ⟨x,hx,e⟩:=hg i hi
  rw [e]
  exact (m i x hx).1.md2 (m i x hx).2
 refine ⟨⟨by simp,by unfold maxLen;omega,fun hn=>?_,fun i hi=>mt_of_md2 (hd i hi),?_⟩,hd⟩
 ·obtain ⟨g,cp,e,_⟩:=World.ownsRow.form o (by omega)
  simp only [Value.slice.injEq] at e
  obtain ⟨rfl,-,rfl⟩:=e
  refine ⟨g,0,rfl,fun i hi=>?_⟩
  obtain ⟨x,hx,e⟩:=hg i hi
  rw [e,Nat.zero_add]
  exact ⟨og_cell8 o hx 0 (by omega) _ rfl,og_cell8 o hx 1 (by omega) _ rfl,og_cell8 o hx 2 (by omega) _ rfl,og_cell8 o hx 3 (by omega) _ rfl,og_cell8 o hx 4 (by omega) _ rfl,og_cell8 o hx 5 (by omega) _ rfl,og_cell8 o hx 6 (by omega) _ rfl,og_cell8 o hx 7 (by omega) _ rfl⟩
 ·obtain ⟨_,h0 | ⟨g,cp,cur,hv,_,_,h1,_⟩⟩:=o
  ·simp at h0
   rw [h0.1.2.1]
   exact Nat.zero_le _
  ·simp only [Value.slice.injEq] at hv
   omega
theorem Lkn.rdT {ps:List PMod} {L:Lay} (h:Lkn ps L) {fn rn on:Nat} {R:List Int} (hm:mok fn rn on=true) (hfn:(fn:Int)=L.flash) (j:Nat) (hj:j<ps.length) (i:Nat) (hi:i<(ps.getD j zP).tz.length):rd fn rn on (flB ps L ps.length) R (Fl ps j+4 * (i:Int)) 4=((ps.getD j zP).tz.getD i 0,0):=by
 obtain ⟨e1,e2,e3,e4,e5,e6⟩:=h.ends j hj
 have m1:=Fl_mono h.v (j+1) ps.length (by omega) (Nat.le_refl _)
 have hfl:=h.fl
 have h32:=Fl_m32 ps j
 rw [rd_fl hm (by omega) (by omega) (by omega)]
 have:=h.text j hj i hi ps.length (Nat.le_refl _) hj
 rw [show (plc ps j).text.toNat+4 * i=(Fl ps j+4 * (i:Int)).toNat from by show (Fl ps j).toNat+4 * i=_;omega] at this
 rw [this]
theorem Lkn.rdB {ps:List PMod} {L:Lay} (h:Lkn ps L) {fn rn on:Nat} {R:List Int} (hm:mok fn rn on=true) (hfn:(fn:Int)=L.flash) (j:Nat) (hj:j<ps.length) (q:Nat) (hq:q<(ps.getD j zP).bl.length) (i:Nat) (hi:i<((ps.getD j zP).bl.getD q []).length):rd fn rn on (flB ps L ps.length) R (Fl ps j+tsz (ps.getD j zP)+fsum (ps.getD j zP) q+4 * (i:Int)) 4=(((ps.getD j zP).bl.getD q []).getD i 0,0):=by
 obtain ⟨e1,e2,e3,e4,e5,e6⟩:=h.ends j hj
 have m1:=Fl_mono h.v (j+1) ps.length (by omega) (Nat.le_refl _)
 have m2:=fsum_mono (h.v j hj) (q+1) _ (by omega) (Nat.le_refl _)
 have hfl:=h.fl
 have h32:=Fl_m32 ps j
 have h33:=tsz_m32 (ps.getD j zP)
 have h34:=fsum_m32 (ps.getD j zP) q
 have e7:=e3 q hq
 rw [rd_fl hm (by omega) (by omega) (by omega)]
 have:=h.bank j hj q hq i hi ps.length (Nat.le_refl _) hj
 rw [plc_bank ps j q hq,show (Fl ps j+tsz (ps.getD j zP)+fsum (ps.getD j zP) q).toNat+4 * i=(Fl ps j+tsz (ps.getD j zP)+fsum (ps.getD j zP) q+4 * (i:Int)).toNat from by omega] at this
 rw [this]
theorem raB_len {ps:List PMod} {L:Lay} (h:Lkn ps L):∀ i,i≤ps.length→(raB ps L i).length=L.ram.toNat
 | 0,_=>by simp [raB]
 | i+1,hi=>by
   have h1:=raB_len h i (by omega)
   have h2:=(h.at i (by omega)).2.2.2
   rw [raB,relB_len,ovr_len _ _ _ (by rw [h1,h.place i (by omega)];omega),h1]
end Go.Proofs.YtngdgogjlpjjpadGreat
