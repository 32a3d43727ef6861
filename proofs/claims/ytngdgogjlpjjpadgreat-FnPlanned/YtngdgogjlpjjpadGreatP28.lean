import Derived.Test.YtngdgogjlpjjpadGreatP23
import Derived.Test.YtngdgogjlpjjpadGreatP25
namespace Go.Proofs.YtngdgogjlpjjpadGreat
open Go.RowKit Classical
set_option linter.unusedVariables false
set_option linter.unusedSimpArgs false
set_option maxRecDepth 100000
def pcq (ps:List PMod) (m b:Int):Int:=
 if 0≤m∧m<(ps.length:Int) then (if b=-1 then ((ps.getD m.toNat zP).tz.length:Int) else if 0≤b∧b<((ps.getD m.toNat zP).bl.length:Int) then (((ps.getD m.toNat zP).bl.getD b.toNat []).length:Int) else -1) else -1
theorem pcm_pcq {w:World} {a:Option Addr} {n cap:Nat} {ms:List Md} (h:MSD w a n cap ms) (m b:Int):pcm ms m b=pcq (pmS ms) m b:=by
 have hn:=h.s.1
 unfold pcm pcq
 rw [pmS_len]
 by_cases c:0≤m∧m<(ms.length:Int)
 ·rw [if_pos c,if_pos c,pmS_at (by omega)]
  have hd:=h.d m.toNat (by omega)
  generalize ms.getD m.toNat zMd=M at *
  have ht:M.tn=M.pm.tz.length:=hd.t.1.symm
  have hb:M.bn=M.pm.bl.length:=by simp [Md.pm,hd.b.1]
  unfold pcn
  rw [ht,hb]
  by_cases c1:b=-1
  ·rw [if_pos c1,if_pos c1]
  ·rw [if_neg c1,if_neg c1]
   by_cases c2:0≤b∧b<(M.pm.bl.length:Int)
   ·rw [if_pos c2,if_pos c2]
    have hr:=(hd.b.2.2.2.1 b.toNat (by omega)).1
    rw [← hr]
    congr 1
    have:b.toNat<M.bl.length:=by rw [hd.b.1,hb];omega
    simp [Md.pm,List.getD_eq_getElem?_getD,this]
   ·rw [if_neg c2,if_neg c2]
 ·rw [if_neg c,if_neg c]
def orgq (L:Lay) (p:Pl) (b s:Int):Int:=if b=-1 then p.text else if s=-1 then p.banks.getD b.toNat 0 else L.slots.getD s.toNat 0
theorem orgn_q (L:Lay) (P:PB) (b s:Int):orgn L P b s=orgq L P.1 b s:=rfl
abbrev sOk (L:Lay) (b s:Int):Prop:=if b=-1∨L.slots=[] then s=-1 else 0≤s∧s<(L.slots.length:Int)
theorem sOk.fit {L:Lay} {b s:Int} (h:sOk L b s):s=-1∨(b≠-1∧0≤s∧s<(L.slots.length:Int)):=by
 unfold sOk at h
 split at h
 ·exact .inl h
 ·rename_i c
  exact .inr ⟨fun e=>c (.inl e),h⟩
structure Pkn (ps:List PMod) (L:Lay) (xs:List PB) (m b s:Int):Prop where
 m0:0≤m
 m1:m<(xs.length:Int)
 m2:m<(ps.length:Int)
 p:(xs.getD m.toNat zPB).1=plc ps m.toNat
 bb:b=-1∨(0≤b∧b<((xs.getD m.toNat zPB).1.banks.length:Int))
 w:0≤pcq ps m b∧pcq ps m b≤200
 d:65536≤(plc ps m.toNat).data∧(plc ps m.toNat).data≤100000∧0≤(plc ps m.toNat).size∧(plc ps m.toNat).size≤100000
 t:65536≤L.stack∧L.stack≤100000
 e:65536≤endOf L∧endOf L≤100000
theorem lok_end {ps:List PMod} {L:Lay} (h:Lok ps L):65536≤endOf L∧endOf L≤100000:=by
 have K:=lok_kn h
 obtain ⟨h1,h2⟩:=h
 have e:lay ps (L.slots.length:Int) (cfW L) (cfK L)=L:=by unfold lkL at h2;rw [if_pos h1] at h2;exact h2
 obtain ⟨hc,n1,n2,hv,hi⟩:=lkc_facts h1
 unfold cfo at hc
 simp at hc
 have a2:=Ra_range hv ps.length (Nat.le_refl _)
 have a3:(0:Int)≤((L.slots.length:Int).toNat:Int) * rnd (4 * cfW L):=Int.mul_nonneg (by omega) (by have:=rnd_range (x:=4 * cfW L) (by omega);omega)
 have e2:L.ram=Ra ps ps.length+cfK L+((L.slots.length:Int).toNat:Int) * rnd (4 * cfW L):=by
  have:=congrArg Lay.ram e
  rw [← this];rfl
 have rr:=K.rr
 unfold endOf
 by_cases c:L.slots=[]
 ·rw [if_pos c]
  have:wrap64 (65536+L.ram)=65536+L.ram:=by unfold wrap64;omega
  rw [this]
  omega
 ·rw [if_neg c]
  have hl:0<L.slots.length:=List.length_pos_iff.2 c
  have e3:L.slots.getD 0 0=slt ps (cfW L) (cfK L) 0:=by
   have:=congrArg Lay.slots e
   have e4:L.slots=(List.range (L.slots.length:Int).toNat).map (slt ps (cfW L) (cfK L)):=by
    conv=>lhs;rw [← this]
    rfl
   rw [e4]
   simp [List.getD_eq_getElem?_getD,hl]
  rw [e3]
  unfold slt
  simp only [Int.natCast_zero,Int.zero_mul]
  omega
theorem pkn_of {w:World} {L:Lay} {a0:Option Addr} {c0:Nat} {xs:List PB} {a2:Option Addr} {c2:Nat} {a5:Option Addr} {c5:Nat} {ts:List TB} {ps:List PMod} {m b s:Int}
 (hL:LyT w L a0 c0 xs a2 c2 a5 c5 ts) (hk:Lok ps L) (hp:0≤pcq ps m b):Pkn ps L xs m b s:=by
 have K:=lok_kn hk
 have hm:0≤m∧m<(ps.length:Int):=by
  unfold pcq at hp
  split at hp
  ·assumption
  ·exact absurd hp (by decide)
 have hx:xs.length=ps.length:=by
  have:=congrArg List.length (hL.ps.trans K.pl)
  simpa using this
 have hpl:(xs.getD m.toNat zPB).1=plc ps m.toNat:=by
  rw [← K.place m.toNat (by omega),← hL.ps]
  simp [List.getD_eq_getElem?_getD,show m.toNat<xs.length by omega]
 have hv:=K.v m.toNat (by omega)
 obtain ⟨_,_,v3,v4,_,_,_,v8⟩:=vld_en hv
 have r1:=Ra_range K.v m.toNat (by omega)
 have r2:=Ra_range K.v ps.length (Nat.le_refl _)
 have r3:=dsz_range hv
 have n4:=K.n.2
 have n5:(m.toNat:Int)≤4:=by omega
 refine ⟨hm.1,by rw [hx];exact hm.2,hm.2,hpl,?_,⟨hp,?_⟩,?_,?_,lok_end hk⟩
 ·rw [hpl]
  unfold pcq at hp
  rw [if_pos hm] at hp
  by_cases c:b=-1
  ·exact .inl c
  ·rw [if_neg c] at hp
   right
   split at hp
   ·rename_i c2
    simpa [plc] using c2
   ·exact absurd hp (by decide)
 ·unfold pcq
  rw [if_pos hm]
  by_cases c:b=-1
  ·rw [if_pos c];omega
  ·rw [if_neg c]
   by_cases c2:0≤b∧b<((ps.getD m.toNat zP).bl.length:Int)
   ·rw [if_pos c2]
    have:=v8 b.toNat (by omega)
    omega
   ·rw [if_neg c2];omega
 ·have:(plc ps m.toNat).data=65536+Ra ps m.toNat:=rfl
  have e2:(plc ps m.toNat).size=dsz (ps.getD m.toNat zP):=rfl
  rw [this,e2]
  omega
 ·rw [K.st]
  have:(ps.length:Int)≤4:=by omega
  omega
theorem put4_out (x:List Int) (k p:Nat) (v:Int) (h:p+4≤k∨k+4≤p):((put x k v 4).drop p).take 4=(x.drop p).take 4:=by
 rw [put_desc4]
 apply List.ext_getElem?
 intro j
 simp only [List.getElem?_take,List.getElem?_drop]
 split
 ·rw [List.getElem?_set_ne (by omega),List.getElem?_set_ne (by omega),List.getElem?_set_ne (by omega),List.getElem?_set_ne (by omega)]
 ·rfl
def wat (zs:List Int) (p:Nat):Int:=low ((zs.drop p).take 4)
theorem pour_out (zs:List Int) (k:Nat) (ws:List Int) (p:Nat):∀ m,(p+4≤k∨k+4 * m≤p)→wat (pour zs k ws m) p=wat zs p
 | 0,_=>rfl
 | m+1,h=>by
   have e:=pour_out zs k ws p m (by omega)
   unfold wat at e ⊢
   rw [pour,put4_out _ _ _ _ (by omega)]
   exact e
theorem pour_at (zs:List Int) (k:Nat) (ws:List Int) (n:Nat) (hw:∀ i,i<n→0≤ws.getD i 0∧ws.getD i 0≤4294967295) (hk:k+4 * n≤zs.length):∀ m,m≤n→∀ i,i<m→wat (pour zs k ws m) (k+4 * i)=ws.getD i 0
 | 0,_,i,h=>absurd h (by omega)
 | m+1,hm,i,h=>by
   by_cases e:i=m
   ·subst e
    unfold wat
    rw [pour,low_put4 _ _ _ (by rw [pour_len];omega)]
    have:=hw i (by omega)
    omega
   ·have e:=pour_at zs k ws n hw hk m (by omega) i (by omega)
    unfold wat at e ⊢
    rw [pour,put4_out _ _ _ _ (by omega)]
    exact e
structure Pk (P:PMod) (p:Pl) (A B:Nat):Prop where
 t0:A≤p.text.toNat
 te:p.text.toNat+4 * P.tz.length≤B
 tb:∀ q,q<P.bl.length→p.text.toNat+4 * P.tz.length≤(p.banks.getD q 0).toNat
 bb:∀ q q',q<q'→q'<P.bl.length→(p.banks.getD q 0).toNat+4 * (P.bl.getD q []).length≤(p.banks.getD q' 0).toNat
 be:∀ q,q<P.bl.length→(p.banks.getD q 0).toNat+4 * (P.bl.getD q []).length≤B
theorem pourB_out {P:PMod} {p:Pl} {A B:Nat} (h:Pk P p A B) (zs:List Int) (x:Nat) (hx:x+4≤A):∀ j,j≤P.bl.length→wat (pourB zs P p j) x=wat zs x
 | 0,_=>pour_out _ _ _ _ _ (by have:=h.t0;omega)
 | j+1,hj=>by
   rw [pourB,pour_out _ _ _ _ _ (by have:=h.t0;have:=h.tb j (by omega);omega)]
   exact pourB_out h zs x hx j (by omega)
theorem pourB_text {P:PMod} {p:Pl} {A B:Nat} (h:Pk P p A B) (hm:mdoP P=0) (zs:List Int) (hB:B≤zs.length) (i:Nat) (hi:i<P.tz.length):∀ j,j≤P.bl.length→wat (pourB zs P p j) (p.text.toNat+4 * i)=P.tz.getD i 0
 | 0,_=>pour_at _ _ _ P.tz.length (vld_wd hm).1 (by have:=h.te;omega) _ (Nat.le_refl _) i hi
 | j+1,hj=>by
   rw [pourB,pour_out _ _ _ _ _ (by have:=h.tb j (by omega);omega)]
   exact pourB_text h hm zs hB i hi j (by omega)
theorem pourB_bank {P:PMod} {p:Pl} {A B:Nat} (h:Pk P p A B) (hm:mdoP P=0) (zs:List Int) (hB:B≤zs.length) (q:Nat) (hq:q<P.bl.length) (i:Nat) (hi:i<(P.bl.getD q []).length):∀ j,j≤P.bl.length→q<j→wat (pourB zs P p j) ((p.banks.getD q 0).toNat+4 * i)=(P.bl.getD q []).getD i 0
 | 0,_,hj=>absurd hj (by omega)
 | j+1,hj,hqj=>by
   by_cases e:q=j
   ·subst e
    exact pour_at _ _ _ (P.bl.getD q []).length ((vld_wd hm).2 q hq) (by rw [pourB_len];have:=h.be q hq;omega) _ (Nat.le_refl _) i hi
   ·rw [pourB,pour_out _ _ _ _ _ (by have:=h.bb q j (by omega) (by omega);omega)]
    exact pourB_bank h hm zs hB q hq i hi j (by omega) (by omega)
theorem plc_bank (ps:List PMod) (i q:Nat) (hq:q<(ps.getD i zP).bl.length):(plc ps i).banks.getD q 0=Fl ps i+tsz (ps.getD i zP)+fsum (ps.getD i zP) q:=range_getD _ _ _ _ hq
theorem Lkn.ends {ps:List PMod} {L:Lay} (h:Lkn ps L) (i:Nat) (hi:i<ps.length):0≤Fl ps i∧Fl ps i+4 * ((ps.getD i zP).tz.length:Int)≤Fl ps i+tsz (ps.getD i zP)∧(∀ q,q<(ps.getD i zP).bl.length→0≤fsum (ps.getD i zP) q∧fsum (ps.getD i zP) q+4 * (((ps.getD i zP).bl.getD q []).length:Int)≤fsum (ps.getD i zP) (q+1))∧Fl ps i+tsz (ps.getD i zP)+fsum (ps.getD i zP) (ps.getD i zP).bl.length=Fl ps (i+1)∧0≤tsz (ps.getD i zP)∧0≤fsum (ps.getD i zP) (ps.getD i zP).bl.length:=by
 have hm:=h.v i hi
 have a1:=Fl_range h.v i (by omega)
 have a3:Fl ps (i+1)=Fl ps i+(tsz (ps.getD i zP)+fsum (ps.getD i zP) (ps.getD i zP).bl.length):=rfl
 have a5:=rnd_range (x:=4 * ((ps.getD i zP).tz.length:Int)) (by omega)
 have a6:tsz (ps.getD i zP)=rnd (4 * ((ps.getD i zP).tz.length:Int)):=rfl
 have a7:=fsum_range hm _ (Nat.le_refl _)
 refine ⟨a1.1,by omega,fun q hq=>?_,by omega,by omega,by omega⟩
 have c1:=fsum_range hm q (by omega)
 have c3:fsum (ps.getD i zP) (q+1)=fsum (ps.getD i zP) q+rnd (4 * (((ps.getD i zP).bl.getD q []).length:Int)):=rfl
 have c4:=rnd_range (x:=4 * (((ps.getD i zP).bl.getD q []).length:Int)) (by omega)
 omega
theorem Lkn.pk {ps:List PMod} {L:Lay} (h:Lkn ps L) (i:Nat) (hi:i<ps.length):Pk (ps.getD i zP) (plc ps i) (Fl ps i).toNat (Fl ps (i+1)).toNat:=by
 obtain ⟨e1,e2,e3,e4,e5,e6⟩:=h.ends i hi
 have hm:=h.v i hi
 have et:(plc ps i).text=Fl ps i:=rfl
 refine ⟨by rw [et];exact Nat.le_refl _,by rw [et];omega,fun q hq=>?_,fun q q' hqq hq'=>?_,fun q hq=>?_⟩
 ·rw [plc_bank ps i q hq,et]
  have:=e3 q hq
  omega
 ·rw [plc_bank ps i q (by omega),plc_bank ps i q' hq']
  have:=e3 q (by omega)
  have:=fsum_mono hm (q+1) q' (by omega) (by omega)
  omega
 ·rw [plc_bank ps i q hq]
  have:=e3 q hq
  have:=fsum_mono hm (q+1) _ (by omega) (Nat.le_refl _)
  omega
theorem Lkn.text {ps:List PMod} {L:Lay} (h:Lkn ps L) (i:Nat) (hi:i<ps.length) (j:Nat) (hj:j<(ps.getD i zP).tz.length):∀ n,n≤ps.length→i<n→wat (flB ps L n) ((plc ps i).text.toNat+4 * j)=(ps.getD i zP).tz.getD j 0
 | 0,_,hn=>absurd hn (by omega)
 | n+1,hn,hin=>by
   have hfl:=h.fl
   have hlen:=flB_len ps L n
   have m1:=Fl_mono h.v (n+1) ps.length (by omega) (Nat.le_refl _)
   by_cases e:i=n
   ·subst e
    rw [flB,h.place i hi]
    exact pourB_text (h.pk i hi) (h.v i hi) _ (by omega) j hj _ (Nat.le_refl _)
   ·have h1:=(h.pk i hi).te
    have h2:=Fl_mono h.v (i+1) n (by omega) (by omega)
    rw [flB,h.place n (by omega),pourB_out (h.pk n (by omega)) _ _ (by omega) _ (Nat.le_refl _)]
    exact Lkn.text h i hi j hj n (by omega) (by omega)
theorem Lkn.bank {ps:List PMod} {L:Lay} (h:Lkn ps L) (i:Nat) (hi:i<ps.length) (q:Nat) (hq:q<(ps.getD i zP).bl.length) (j:Nat) (hj:j<((ps.getD i zP).bl.getD q []).length):∀ n,n≤ps.length→i<n→wat (flB ps L n) (((plc ps i).banks.getD q 0).toNat+4 * j)=((ps.getD i zP).bl.getD q []).getD j 0
 | 0,_,hn=>absurd hn (by omega)
 | n+1,hn,hin=>by
   have hfl:=h.fl
   have hlen:=flB_len ps L n
   have m1:=Fl_mono h.v (n+1) ps.length (by omega) (Nat.le_refl _)
   by_cases e:i=n
   ·subst e
    rw [flB,h.place i hi]
    exact pourB_bank (h.pk i hi) (h.v i hi) _ (by omega) q hq j hj _ (Nat.le_refl _) hq
   ·have h1:=(h.pk i hi).be q hq
    have h2:=Fl_mono h.v (i+1) n (by omega) (by omega)
    rw [flB,h.place n (by omega),pourB_out (h.pk n (by omega)) _ _ (by omega) _ (Nat.le_refl _)]
    exact Lkn.bank h i hi q hq j hj n (by omega) (by omega)
theorem rnd_m32 (x:Int):rnd x % 32=0:=by unfold rnd;omega
theorem fsum_m32 (P:PMod):∀ k,fsum P k % 32=0
 | 0=>rfl
 | k+1=>by
   have h1:=fsum_m32 P k
   have h2:=rnd_m32 (4 * ((P.bl.getD k []).length:Int))
   show (fsum P k+rnd (4 * ((P.bl.getD k []).length:Int))) % 32=0
   omega
theorem tsz_m32 (P:PMod):tsz P % 32=0:=rnd_m32 _
theorem Fl_m32 (ps:List PMod):∀ i,Fl ps i % 32=0
 | 0=>rfl
 | i+1=>by
   have h1:=Fl_m32 ps i
   have h2:=tsz_m32 (ps.getD i zP)
   have h3:=fsum_m32 (ps.getD i zP) (ps.getD i zP).bl.length
   show (Fl ps i+(tsz (ps.getD i zP)+fsum (ps.getD i zP) (ps.getD i zP).bl.length)) % 32=0
   omega
theorem pcq_in {w:World} {a:Option Addr} {n cap:Nat} {ms:List Md} (h:MSD w a n cap ms) {m b:Int} (hp:0≤pcq (pmS ms) m b):(0≤m∧m<(n:Int))∧pcn (ms.getD m.toNat zMd).tn (ms.getD m.toNat zMd).bn (ms.getD m.toNat zMd).bl b=pcq (pmS ms) m b:=by
 have hn:=h.s.1
 rw [← pcm_pcq h] at hp ⊢
 unfold pcm at hp ⊢
 rw [hn] at hp ⊢
 by_cases c:0≤m∧m<(n:Int)
 ·exact ⟨c,by rw [if_pos c]⟩
 ·rw [if_neg c] at hp;exact absurd hp (by decide)
theorem l4Piece_q {w:World} {a:Option Addr} {n cap:Nat} {ms:List Md} (h:MSD w a n cap ms) {m b:Int} (hp:0≤pcq (pmS ms) m b) {M:Md} (hM:ms.getD m.toNat zMd=M) (X:World) (hX:Below w.heap.size w X):Calls Tryz.prog 173 #[.agg #[.string M.nm,.slice M.ta M.tn M.tc,.slice M.ba M.bn M.bc,.slice M.da M.dn M.dc,.int .i64 M.bss,.slice M.ra M.rn M.rc,.slice M.ia M.im M.ic,.slice M.ea M.en M.ec],.int .i64 b] X (fun e w'=>∃ xa xn xc,e=.returned (.tuple #[.slice xa xn xc,.bool true])∧(xn:Int)=pcq (pmS ms) m b∧Below w.heap.size w w'):=by
 obtain ⟨⟨h0,h1⟩,hq⟩:=pcq_in h hp
 have hmt:=h.s.2.2.2.1 m.toNat (by omega)
 rw [hM] at hmt hq
 refine (l4Piece_any M.nm M.ta M.tn M.tc M.ba M.bn M.bc M.bl (.slice M.da M.dn M.dc) (.slice M.ra M.rn M.rc) (.slice M.ia M.im M.ic) (.slice M.ea M.en M.ec) M.bss b X hmt.t.2.1 (hmt.b.below hX)).mono fun e w' ⟨xa,xn,xc,ok,he,ho,hx,_,hb⟩=>?_
 have ho':ok=true:=by rw [ho,hq];simp;omega
 exact ⟨xa,xn,xc,by rw [he,ho'],by rw [hx ho',hq],hX.trans (hb.mono hX.size)⟩
end Go.Proofs.YtngdgogjlpjjpadGreat
