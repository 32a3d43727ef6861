import Derived.Test.YtcimaholejajpaaGreatF07
set_option linter.all false
namespace Go.Proofs.YtcimaholejajpaaGreat
open Go.RowKit
open Go.Proofs.Tryz
set_option maxRecDepth 100000
theorem aFz {ops:Array Oper}{o:Oper}{a:Act}{w W:qw}{mc:Array Value}{q n c:Nat}{out X:List Int}{K:Act->World->Prop}{Q:Exit->Act->World->Prop}{E:Prop}(hE:Ew w W mc q n c out)(hgd:o.guard=none)(s x:Operand)
 (ho:o.op=.call { callee:=.builtin .append,args:=#[s,x],argTypes:=#[22,22] }) (hs:a.eval s=qS (qP q) n c) (da:qO) (m cp:Nat) (hx:a.eval x=qS da m cp) (hda:(da=none/\m=0/\cp=0)\/∃ db,da=qP db) (hd:BS W da m cp X) (hn:0<n) (hm:n+m<=40000)
 (h:∀ g d w',Ew w w' mc g (n+m) d (out++X)->K (a.put o.dst (qS (qP g) (n+m) d)) w'):if Region.wanted o (yielded ops a.tmps)=true then Oper.wp prog o a W K Q else E:=by
 rcases hda with ⟨rfl,rfl,rfl⟩|⟨db,rfl⟩
 .have hw:Region.wanted o (yielded ops a.tmps)=true:=by simp [Region.wanted,hgd]
  rw [if_pos hw];obtain ⟨i0,hi,hz0,hz1,hz2⟩:=info_parts gW;have o1:=hE.o.1;rw [hE.len] at o1;have hrun:=run_append_owned_none (P:=prog) (w:=W) (w.heap.size+1) 22 o.type 5 i0 1 underlying22 hi (qS (qP q) n c) n (out.map (Value.int .u8)) o1;obtain rfl:X=[]:=List.length_eq_zero_iff.1 hd.1;unfold Oper.wp;simp [execOp,ho,resolve,invoke,builtin,hs,hx,hrun,Result.andThen];exact h q c W (by simpa using hE)
 .exact jR hE hgd s x ho hs (qR db 0) m cp hx hd.1 hd.2.2.1 (pG hd) hn hm h
set_option maxHeartbeats 8000000 in
theorem fZ (nm:ByteArray)(ta:qO)(tn tc:Nat)(tz:qi)(ba:qO)(bn bc:Nat)(bl:List Bk)(da:qO)(dn dc:Nat)(dz:qi)(bss:Int)(ra:qO)(rn rc:Nat)(rz:qi)(ia:qO)(im ic:Nat)(ss:List ByteArray)(ea:qO)(en ec:Nat)(es:List Ex)(w:qw)
 (h:MD w nm ta tn tc tz ba bn bc bl da dn dc dz bss ra rn rc rz ia im ic ss ea en ec es) (hv:mdo nm tn tz bn bl dn bss rn rz im ss en es=0) (hda:(da=none/\dn=0/\dc=0)\/∃ db,da=qP db):
 qC 17 #[.agg (qM nm ta tn tc ba bn bc da dn dc bss ra rn rc ia im ic ea en ec)] w (aM9 w (aFm nm tz bn bl dn dz bss rn rz im ss en es)):=by
 have HDA:=zh hda;clear hda;obtain ⟨i0,hi,hz0,hz1,hz2⟩:=info_parts gW;have V:=fA h.b.1 hv;have HOK:=zh (fun w h=>dX nm ta tn tc tz ba bn bc bl da dn dc dz bss ra rn rc rz ia im ic ss ea en ec es w h);rw [hv] at HOK;clear hv;have v1:=V.n;have v2:=V.t;have v3:=V.b;have v4:=V.d;have v5:=V.s;have v6:=V.r;have v7:=V.i;have v8:=V.e;have HTX:=zh (fun (s:ByteArray) (w:qw) (hs:s.size<=25)=>aCe s w (by omega));obtain ⟨mc,hmc⟩:∃ mc:Array Value,mc=(qM nm ta tn tc ba bn bc da dn dc bss ra rn rc ia im ic ea en ec):=⟨_,rfl⟩;have HMC:=zh hmc;have k0:=Blk.new w (qM nm ta tn tc ba bn bc da dn dc bss ra rn rc ia im ic ea en ec) 53;have hB0:qY w (w.alloc (.cells (qM nm ta tn tc ba bn bc da dn dc bss ra rn rc ia im ic ea en ec) 53)):=bal;have HBX:=zh (fun (W:qw) (hb:Blk W w.heap.size mc 53)=>Blk.mod (show Blk W w.heap.size (qM nm ta tn tc ba bn bc da dn dc bss ra rn rc ia im ic ea en ec) 53 by rw [<- HMC.o];exact hb));have HK0:=zh (show Blk (w.alloc (.cells (qM nm ta tn tc ba bn bc da dn dc bss ra rn rc ia im ic ea en ec) 53)) w.heap.size mc 53 by rw [hmc];exact k0);clear hmc k0;go_enter func17,ntmps17
 go_wp2_with fail
 refine (HOK.o _ (MD.bw h hB0)).mono ?_;rintro e w1 ⟨rfl,hb1⟩;have k1:=HK0.o.bw hb1;have hB1:=hB0.trans (hb1.mono (by simp));have hsz1:=k1.lt;clear hb1 hB0 HOK HK0;have al1:qY w1 (w1.alloc (.cells #[.int .u8 88,.int .u8 77] 5)):=bal;have E0:Ew w (w1.alloc (.cells #[.int .u8 88,.int .u8 77] 5)) mc w1.heap.size 2 2 [88,77]:=⟨k1.bw al1,aMf w1 _ (by omega) 88 77 (by omega) (by omega),hB1.trans (al1.mono hB1.size),by simp⟩;clear k1 al1 hB1;obtain ⟨q0,q1,q2,q3,q4,q5,q6,q7⟩:=HBX.o _ E0.box;go_wp2_with fail
 refine (HTX.o nm _ (by omega)).mono ?_;rintro e w2 ⟨g2,d2,rfl,o2,hb2⟩;obtain ⟨m2,hm2⟩:∃ m,m=(iS nm).length:=⟨_,rfl⟩;have hm2':1<=m2/\m2<=13:=by rw [hm2,fP];omega
 rw [<- hm2] at o2 ⊢;have E0:=E0.step hb2;have HX2:=zh (xA hm2 (xA o2.2 (bR o2)));have HE0:=zh E0;clear q0 q1 q2 q3 q4 q5 q6 q7 o2 hb2 hm2 E0;go_wp2_with (at_builtin;refine jV HE0.o rfl _ _ rfl rfl (qR g2 0) m2 d2 rfl HX2.o.1.symm HX2.o.2.1 HX2.o.2.2 (by omega) (by omega) ?_;intro g3 d3 w3 E3)
 clear HX2 HE0;obtain ⟨n3,hn3⟩:=eqx (2+m2);rw [<- hn3] at E3 ⊢;have hn3':3<=n3/\n3<=15:=by omega
 rw [show ([88,77]:qi)++iS nm=aKl nm from rfl] at E3;have HLI:=zh (fun (w:qw) (h:IS w ta tn tc tz)=>sF ta tn tc tz w h (by omega) V.tw);obtain ⟨m4,hm4⟩:∃ m,m=(jC tz).length:=⟨_,rfl⟩;have hm4':2<=m4/\m4<=802:=by rw [hm4,jJ,h.t.1];omega
 unfold nW at HLI;rw [<- hm4] at HLI;have HM4:=zh hm4;have HN1:=zh (fun w=>bT bn 1 w (Or.inl rfl) (by omega) (by omega));have HE3:=zh E3;obtain ⟨q0,q1,q2,q3,q4,q5,q6,q7⟩:=HBX.o _ E3.box;clear E3 hn3 hm2' hm4
 go_region_held3 (fun w'=>w'.cell? (qR w.heap.size 1)=some (qS ta tn tc)/\w'.cell? (qR w.heap.size 2)=some (qS ba bn bc)) (go_keep) (first
  | (refine jR HE6.o rfl _ _ rfl rfl (qR w5.heap.size 0) 1 1 rfl (bE _ _) (aV _ _) (bR HO6.o) (by omega) (by omega) ?_;intro g7 d7 w7 E7;have HE7:=zh E7;clear E7;obtain ⟨q0,q1,q2,q3,q4,q5,q6,q7⟩:=HBX.o _ HE7.o.box)
  | (refine jR HE4.o rfl _ _ rfl rfl (qR g4 0) m4 d4 rfl HM4.o.symm HO4.o.2 (bR HO4.o) (by omega) (by omega) ?_;intro g5 d5 w5 E5;have HE5:=zh E5;clear E5 HE4 HO4;obtain ⟨q0,q1,q2,q3,q4,q5,q6,q7⟩:=HBX.o _ HE5.o.box)
  | (go_simp;go_at_call 40;refine (HN1.o _).mono ?_;rintro e w6 ⟨rfl,o6,hb6⟩;have HE6:=zh (HE5.o.step hb6);have HO6:=zh o6;obtain ⟨q0,q1,q2,q3,q4,q5,q6,q7⟩:=HBX.o _ HE6.o.box)
  | (go_simp;go_at_call 39;refine (HLI.o _ (by first|exact h.t.bw HE3.o.bw.drew|exact h.t.bw HE3.o.bw)).mono ?_;rintro e w4 ⟨g4,d4,rfl,o4,hb4⟩;replace hb4:=fE hb4;have HE4:=zh (HE3.o.step hb4);have HO4:=zh o4;obtain ⟨q0,q1,q2,q3,q4,q5,q6,q7⟩:=HBX.o _ HE4.o.box))
 have E7:=HE7.o;rw [show aKl nm++jC tz++bM bn 1=aBg nm tz bn from rfl] at E7;obtain ⟨n7,hn7⟩:=eqx (n3+m4+1);rw [<- hn7] at E7 ⊢;have hn7':3<=n7/\n7<=820:=by omega
 have HV:=zh V;clear HE3 HE5 HE6 HE7 HO6 HM4 HLI HN1 hn7 hn3' hm4' q0 q1 q2 q3 q4 q5 q6 q7 V hb4 hb6 o4 o6;go_wp2_with fail
 go_loopw [3,4] (fun x i wr=>∃ (k q n c:Nat),k<=bn/\i=qI k/\x=qS (qP q) n c/\Ew w wr mc q n c (aBg nm tz bn++gZ bl k)/\3<=n/\n<=820+k*300) (fun _ i _=>bn-(intOf i).toNat)
 .exact ⟨0,g7,n7,d7,xC _,rfl,rfl,by simpa [gZ] using E7,by omega,by omega⟩
 .obtain ⟨k,q,n,c,hk,rfl,rfl,E8,hn0,hn1⟩:=hrel;clear E7;obtain ⟨q0,q1,q2,q3,q4,q5,q6,q7⟩:=HBX.o _ E8.box;by_cases hlt:k<bn
  .have hlt':(k:Int)<(bn:Int):=by omega
   have hbk:=h.b.bw E8.bw;obtain ⟨bb,off,rfl⟩:=hbk.addr (by omega);have hc:=hbk.at k hlt;have hI:=hbk.2.2.2.1 k hlt;have hw:=HV.o.bw k (by rw [h.b.1];exact hlt);have HS:=zh (show aBg nm tz bn++gZ bl (k+1)=aBg nm tz bn++gZ bl k++jC (bl.getD k zB).2.2.2 by unfold gZ;rw [nL _ bl zB k (by rw [h.b.1];exact hlt),List.append_assoc]);generalize aBg nm tz bn++gZ bl k=out at *;generalize bl.getD k zB=B at *;obtain ⟨Ba,Bn,Bc,Bz⟩:=B;dsimp only at hc hI hw HS;have HLI:=zh (fun (w:qw) (h:IS w Ba Bn Bc Bz)=>sF Ba Bn Bc Bz w h (by omega) hw.2);obtain ⟨m4,hm4⟩:∃ m,m=(jC Bz).length:=⟨_,rfl⟩;have hm4':2<=m4/\m4<=258:=by rw [hm4,jJ,hI.1];omega
   unfold nW at HLI;rw [<- hm4] at HLI;have HM4:=zh hm4;clear hm4 hw;go_wp2_with fail
   refine (HLI.o _ hI).mono ?_;rintro e w9 ⟨g9,d9,rfl,o9,hb9⟩;have HE9:=zh (E8.step hb9);have HO9:=zh o9;clear hb9 o9 E8 hI hbk hc q0 q1 q2 q3 q4 q5 q6 q7 HLI;go_wp2_with (at_builtin;refine jV HE9.o rfl _ _ rfl rfl (qR g9 0) m4 d9 rfl HM4.o.symm HO9.o.2 (bR HO9.o) (by omega) (by omega) ?_;intro g10 d10 w10 E10)
   rw [<- HS.o] at E10;have HX:=zh E10;clear E10 HE9 HO9
   go_roundw
   .exact ⟨k+1,g10,n+m4,d10,by omega,by go_num,rfl,HX.o,by omega,by omega⟩
   .simp [intOf];omega
  .obtain rfl:bn=k:=by omega
   clear hlt hk q0 q1 q4 q5 q6 q7;have hn8:n<=2020:=by omega
   clear hn1;have HE8:=zh E8;clear E8;have hdl:=h.d.1;have HDL:=zh hdl;clear hdl;have HN2:=zh (fun w=>bT dn 2 w (Or.inr (Or.inl rfl)) (by omega) (by omega));go_wp2_with fail
   go_region_held3 (fun w'=>w'.cell? (qR w.heap.size 3)=some (qS da dn dc)) (go_keep) (first
    | (refine aFz HE12.o rfl _ _ rfl rfl da dn dc rfl HDA.o (h.d.bw HE12.o.bw) (by omega) (by omega) ?_;intro g13 d13 w13 E13;have HE13:=zh E13;clear E13;obtain ⟨q0,q1,q2,q3,q4,q5,q6,q7⟩:=HBX.o _ HE13.o.box)
    | (refine jR HE11.o rfl _ _ rfl rfl (qR wr.heap.size 0) 2 2 rfl (bE _ _) (aV _ _) (bR HO11.o) (by omega) (by omega) ?_;intro g12 d12 w12 E12;have HE12:=zh E12;clear E12 HE11 HO11;obtain ⟨q0,q1,q2,q3,q4,q5,q6,q7⟩:=HBX.o _ HE12.o.box)
    | (go_simp;go_at_call 40;refine (HN2.o _).mono ?_;rintro e w11 ⟨rfl,o11,hb11⟩;replace hb11:=fE hb11;have HE11:=zh (HE8.o.step hb11);have HO11:=zh o11;obtain ⟨q0,q1,q2,q3,q4,q5,q6,q7⟩:=HBX.o _ HE11.o.box))
   clear HE8 HE12 hb11 o11;obtain ⟨n13,hn13⟩:∃ m,m=n+2+dn:=⟨_,rfl⟩;have h13:3<=n13/\n13<=2600:=by omega
   have E13:=HE13.o;rw [<- hn13] at E13 ⊢;have HE13:=zh E13;clear hn13 E13 hn8 hn0 HN2;have HN3:=zh (fun w=>bT bss 2 w (Or.inr (Or.inl rfl)) (by omega) (by omega));have HN4:=zh (fun w=>bT rn 1 w (Or.inl rfl) (by omega) (by omega));go_wp2_with fail
   go_region_held3 (fun w'=>w'.cell? (qR w.heap.size 4)=some (qI bss)/\w'.cell? (qR w.heap.size 5)=some (qS ra rn rc)) (go_keep) (first
    | (refine jR HE16.o rfl _ _ rfl rfl (qR w15.heap.size 0) 1 1 rfl (bE _ _) (aV _ _) (bR HO16.o) (by omega) (by omega) ?_;intro g17 d17 w17 E17;have HE17:=zh E17;clear E17;obtain ⟨q0,q1,q2,q3,q4,q5,q6,q7⟩:=HBX.o _ HE17.o.box)
    | (refine jR HE14.o rfl _ _ rfl rfl (qR w13.heap.size 0) 2 2 rfl (bE _ _) (aV _ _) (bR HO14.o) (by omega) (by omega) ?_;intro g15 d15 w15 E15;have HE15:=zh E15;clear E15 HE14 HO14;obtain ⟨q0,q1,q2,q3,q4,q5,q6,q7⟩:=HBX.o _ HE15.o.box)
    | (go_simp;go_at_call 40;refine (HN4.o w15).mono ?_;rintro e w16 ⟨rfl,o16,hb16⟩;have HE16:=zh (HE15.o.step hb16);have HO16:=zh o16;obtain ⟨q0,q1,q2,q3,q4,q5,q6,q7⟩:=HBX.o _ HE16.o.box)
    | (go_simp;go_at_call 40;refine (HN3.o _).mono ?_;rintro e w14 ⟨rfl,o14,hb14⟩;replace hb14:=fE hb14;have HE14:=zh (HE13.o.step hb14);have HO14:=zh o14;obtain ⟨q0,q1,q2,q3,q4,q5,q6,q7⟩:=HBX.o _ HE14.o.box))
   clear HE13 HE15 HE16 HO16 q0 q1 q2 q3 q4 q5 q6 q7 hb14 o14 hb16 o16;obtain ⟨n17,hn17⟩:∃ m,m=n13+2+1:=⟨_,rfl⟩;have h17:3<=n17/\n17<=2610:=by omega
   have E17:=HE17.o;rw [<- hn17] at E17 ⊢;rw [show aBg nm tz bn++gZ bl bn++bM dn 2++dz++bM bss 2++bM rn 1=yY nm tz bn bl dn dz bss rn from rfl] at E17;clear hn17 HN3 HN4 HE17 h13;go_wp2_with fail
   go_loopw [3,5] (fun x i wr=>∃ (k q n c:Nat),k<=rn/\i=qI k/\x=qS (qP q) n c/\Ew w wr mc q n c (yY nm tz bn bl dn dz bss rn++dT 2 rz k)/\3<=n/\n<=2610+k*2) (fun _ i _=>rn-(intOf i).toNat)
   .exact ⟨0,g17,n17,d17,xC _,rfl,rfl,by simpa [dT] using E17,by omega,by omega⟩
   .obtain ⟨k,q,n,c,hk,rfl,rfl,E8,hn0,hn1⟩:=hrel;clear E17 h17;obtain ⟨q0,q1,q2,q3,q4,q5,q6,q7⟩:=HBX.o _ E8.box;by_cases hlt:k<rn
    .have hlt':(k:Int)<(rn:Int):=by omega
     have hr:=h.r.bw E8.bw;obtain ⟨rb,off,rfl⟩:=hr.addr (by omega);have hc:=hr.at k hlt;have hw:=HV.o.rw k hlt;have HS:=zh (show yY nm tz bn bl dn dz bss rn++dT 2 rz (k+1)=yY nm tz bn bl dn dz bss rn++dT 2 rz k++bM (rz.getD k 0) 2 by rw [nO 2 rz k (by rw [h.r.1];exact hlt),List.append_assoc]);generalize yY nm tz bn bl dn dz bss rn++dT 2 rz k=out at *;generalize rz.getD k 0=z at *;have HN5:=zh (fun w=>bT z 2 w (Or.inr (Or.inl rfl)) (by omega) (by omega));go_wp2_with fail
     refine (HN5.o _).mono ?_;rintro e w9 ⟨rfl,o9,hb9⟩;have HE9:=zh (E8.step hb9);have HO9:=zh o9;clear hb9 o9 E8 hr hc q0 q1 q2 q3 q4 q5 q6 q7 HN5;go_wp2_with (at_builtin;refine jV HE9.o rfl _ _ rfl rfl (qR wr.heap.size 0) 2 2 rfl (bE _ _) (aV _ _) (bR HO9.o) (by omega) (by omega) ?_;intro g10 d10 w10 E10)
     rw [<- HS.o] at E10;have HX:=zh E10;clear E10 HE9 HO9
     go_roundw
     .exact ⟨k+1,g10,n+2,d10,by omega,by go_num,rfl,HX.o,by omega,by omega⟩
     .simp [intOf];omega
    .obtain rfl:rn=k:=by omega
     clear hlt hk q0 q1 q2 q3 q4 q7;have HN6:=zh (fun w=>bT im 1 w (Or.inl rfl) (by omega) (by omega));go_wp2_with fail
     refine (HN6.o _).mono ?_;rintro e w18 ⟨rfl,o18,hb18⟩;have HE18:=zh (E8.step hb18);have HO18:=zh o18;clear hb18 o18 E8 q5 q6 HN6;go_wp2_with (at_builtin;refine jV HE18.o rfl _ _ rfl rfl (qR wr.heap.size 0) 1 1 rfl (bE _ _) (aV _ _) (bR HO18.o) (by omega) (by omega) ?_;intro g19 d19 w19 E19)
     rw [show yY nm tz bn bl dn dz bss rn++dT 2 rz rn++bM im 1=yX nm tz bn bl dn dz bss rn rz im from rfl] at E19;clear HE18 HO18;go_loopw [3,6] (fun x i wr=>∃ (k q n c:Nat),k<=im/\i=qI k/\x=qS (qP q) n c/\Ew w wr mc q n c (yX nm tz bn bl dn dz bss rn rz im++mP ss k)/\3<=n/\n<=2700+k*26) (fun _ i _=>im-(intOf i).toNat)
     .exact ⟨0,g19,n+1,d19,xC _,rfl,rfl,by simpa [mP] using E19,by omega,by omega⟩
     .obtain ⟨k,q,n,c,hk,rfl,rfl,E8,hn0,hn1⟩:=hrel;clear E19;obtain ⟨q0,q1,q2,q3,q4,q5,q6,q7⟩:=HBX.o _ E8.box;by_cases hlt:k<im
      .have hlt':(k:Int)<(im:Int):=by omega
       have hr:=h.i.bw E8.bw;obtain ⟨sb,off,rfl⟩:=hr.addr (by omega);have hc:=hr.at k hlt;have hw:=HV.o.iw k hlt;have HS:=zh (show yX nm tz bn bl dn dz bss rn rz im++mP ss (k+1)=yX nm tz bn bl dn dz bss rn rz im++mP ss k++iS (ss.getD k zS) by unfold mP;rw [nL _ ss zS k (by rw [h.i.1];exact hlt),List.append_assoc]);generalize yX nm tz bn bl dn dz bss rn rz im++mP ss k=out at *;generalize ss.getD k zS=z at *;have HT5:=zh (fun w=>HTX.o z w hw);obtain ⟨m5,hm5⟩:∃ m,m=(iS z).length:=⟨_,rfl⟩;have hm5':1<=m5/\m5<=26:=by rw [hm5,fP];omega
       unfold nW at HT5;rw [<- hm5] at HT5;have HM5:=zh hm5;clear hm5 hw;go_wp2_with fail
       refine (HT5.o _).mono ?_;rintro e w9 ⟨g9,d9,rfl,o9,hb9⟩;have HE9:=zh (E8.step hb9);have HO9:=zh o9;clear hb9 o9 E8 hr hc q0 q1 q2 q3 q4 q5 q6 q7 HT5;go_wp2_with (at_builtin;refine jV HE9.o rfl _ _ rfl rfl (qR g9 0) m5 d9 rfl HM5.o.symm HO9.o.2 (bR HO9.o) (by omega) (by omega) ?_;intro g10 d10 w10 E10)
       rw [<- HS.o] at E10;have HX:=zh E10;clear E10 HE9 HO9
       go_roundw
       .exact ⟨k+1,g10,n+m5,d10,by omega,by go_num,rfl,HX.o,by omega,by omega⟩
       .simp [intOf];omega
      .obtain rfl:im=k:=by omega
       clear hlt hk q0 q1 q2 q3 q4 q5;have HN6:=zh (fun w=>bT en 1 w (Or.inl rfl) (by omega) (by omega));go_wp2_with fail
       refine (HN6.o _).mono ?_;rintro e w18 ⟨rfl,o18,hb18⟩;have HE18:=zh (E8.step hb18);have HO18:=zh o18;clear hb18 o18 E8 q6 q7 HN6;go_wp2_with (at_builtin;refine jV HE18.o rfl _ _ rfl rfl (qR wr.heap.size 0) 1 1 rfl (bE _ _) (aV _ _) (bR HO18.o) (by omega) (by omega) ?_;intro g19 d19 w19 E19)
       rw [show yX nm tz bn bl dn dz bss rn rz im++mP ss im++bM en 1=aBf nm tz bn bl dn dz bss rn rz im ss en from rfl] at E19;clear HE18 HO18;go_loopw [3,7] (fun x i wr=>∃ (k q n c:Nat),k<=en/\i=qI k/\x=qS (qP q) n c/\Ew w wr mc q n c (aBf nm tz bn bl dn dz bss rn rz im ss en++oG es k)/\3<=n/\n<=3300+k*16) (fun _ i _=>en-(intOf i).toNat)
       .exact ⟨0,g19,n+1,d19,xC _,rfl,rfl,by simpa [oG] using E19,by omega,by omega⟩
       .obtain ⟨k,q,n,c,hk,rfl,rfl,E8,hn0,hn1⟩:=hrel;clear E19;obtain ⟨q0,q1,q2,q3,q4,q5,q6,q7⟩:=HBX.o _ E8.box;by_cases hlt:k<en
        .have hlt':(k:Int)<(en:Int):=by omega
         have hr:=h.e.bw E8.bw;obtain ⟨eb,off,rfl⟩:=hr.addr (by omega);obtain ⟨c0,c1,c2⟩:=hr.at k hlt;have hw:=HV.o.ew k hlt;have HS:=zh (show aBf nm tz bn bl dn dz bss rn rz im ss en++oG es (k+1)=aBf nm tz bn bl dn dz bss rn rz im ss en++oG es k++yV (es.getD k zE) by unfold oG;rw [nL _ es zE k (by rw [h.e.1];exact hlt),List.append_assoc]);generalize aBf nm tz bn bl dn dz bss rn rz im ss en++oG es k=out at *;generalize es.getD k zE=z at *;obtain ⟨xn,xb,xa⟩:=z;dsimp only at c0 c1 c2 hw HS;obtain ⟨hw1,hw2,hw3,hw4,hw5⟩:=hw;have HT5:=zh (fun w=>HTX.o xn w (by omega));obtain ⟨m5,hm5⟩:∃ m,m=(iS xn).length:=⟨_,rfl⟩;have hm5':1<=m5/\m5<=13:=by rw [hm5,fP];omega
         unfold nW at HT5;rw [<- hm5] at HT5;have HM5:=zh hm5;have HN7:=zh (fun (v:Int) (hv:v=xb+1) w=>(show qC 40 #[qI v,qI 1] w fun e w'=>e=.returned (qS (qP w.heap.size) 1 1)/\OB w' w.heap.size (qS (qP w.heap.size) 1 1) (bM (xb+1) 1)/\qY w w' by rw [hv];exact bT (xb+1) 1 w (Or.inl rfl) (by omega) (by omega)));have HN8:=zh (fun w=>bT xa 2 w (Or.inr (Or.inl rfl)) (by omega) (by omega));have HEW:Zh (IntKind.i64.wrap (xb+1)=xb+1):=bC _ (by omega) (by omega);have al:qY wr (wr.alloc (.cells #[.string xn,qI xb,qI xa] 91)):=bal;have HP9:=zh (E8.step al);have HKX:=zh (Blk.new wr #[.string xn,qI xb,qI xa] 91);obtain ⟨x0,x1,x2,x3⟩:=HKX.o.three;clear hm5 hr E8 al q0 q1 q2 q3 q4 q5 q6;go_wp2_with fail
         have hnn:n<=3600:=by omega
         clear c0 c1 c2 q7 v1 v2 v3 v4 v5 v6 v7 hw1 hw2 hw3 hw4 hw5
         go_region_held3 (fun w'=>w'.cell? (qR wr.heap.size 0)=some (.string xn)/\w'.cell? (qR wr.heap.size 1)=some (qI xb)/\w'.cell? (qR wr.heap.size 2)=some (qI xa)) (go_keep) (first
          | (have hx:=HP14;clear hx;refine pU HP14.o rfl _ _ rfl rfl (qR wq13.heap.size 0) 2 2 rfl (bE _ _) (aV _ _) (bR HQ14.o) (by omega) (by omega) ?_;intro g15 d15 wq15 E15 kp;have HP15:=zh E15;have HK15:=zh (kp _ _ _ (by decide) HK14.o);clear E15 kp HP14 HQ14 HK14;obtain ⟨x0,x1,x2,x3⟩:=HK15.o.three)
          | (have hx:=HP12;clear hx;refine pU HP12.o rfl _ _ rfl rfl (qR wq11.heap.size 0) 1 1 rfl (bE _ _) (aV _ _) (bR HQ12.o) (by omega) (by omega) ?_;intro g13 d13 wq13 E13 kp;have HP13:=zh E13;have HK13:=zh (kp _ _ _ (by decide) HK12.o);clear E13 kp HP12 HQ12 HK12;obtain ⟨x0,x1,x2,x3⟩:=HK13.o.three)
          | (have hx:=HP10;clear hx;refine pU HP10.o rfl _ _ rfl rfl (qR g10 0) m5 d10 rfl HM5.o.symm HQ10.o.2 (bR HQ10.o) (by omega) (by omega) ?_;intro g11 d11 wq11 E11 kp;have HP11:=zh E11;have HK11:=zh (kp _ _ _ (by decide) HK10.o);clear E11 kp HP10 HQ10 HK10;obtain ⟨x0,x1,x2,x3⟩:=HK11.o.three)
          | (have hx:=HP13;clear hx;go_simp;go_at_call 40;refine (HN8.o wq13).mono ?_;rintro e wq14 ⟨rfl,o14,hb14⟩;have HP14:=zh (HP13.o.step hb14);clear HP13;have HQ14:=zh o14;have HK14:=zh (HK13.o.bw hb14);obtain ⟨x0,x1,x2,x3⟩:=HK14.o.three)
          | (have hx:=HP11;clear hx;go_at_call 40;refine (HN7.o _ HEW.o wq11).mono ?_;rintro e wq12 ⟨rfl,o12,hb12⟩;have HP12:=zh (HP11.o.step hb12);clear HP11;have HQ12:=zh o12;have HK12:=zh (HK11.o.bw hb12);obtain ⟨x0,x1,x2,x3⟩:=HK12.o.three)
          | (have hx:=HP9;clear hx;go_simp;go_at_call 38;refine (HT5.o _).mono ?_;rintro e wq10 ⟨g10,d10,rfl,o10,hb10⟩;replace hb10:=fE hb10;have HP10:=zh (HP9.o.step hb10);clear HP9;have HQ10:=zh o10;have HK10:=zh (HKX.o.bw hb10);obtain ⟨x0,x1,x2,x3⟩:=HK10.o.three))
         have E15:=HP15.o;rw [show out++iS xn++bM (xb+1) 1++bM xa 2=out++yV (xn,xb,xa) by unfold yV;simp [List.append_assoc],<- HS.o] at E15;have HX:=zh E15;clear E15 HP15 HK11 HK13 HK15 HKX x0 x1 x2 x3 HN7 HN8 HT5 hb10 hb12 hb14 o10 o12 o14;go_wp2
         go_roundw
         .exact ⟨k+1,g15,n+m5+1+2,d15,by omega,by go_num,rfl,HX.o,by omega,by omega⟩
         .simp [intOf];omega
        .obtain rfl:en=k:=by omega
         have HX:=zh E8;have hle:=E8.len;have HLE:=zh hle;clear hle E8 hlt hk q0 q1 q2 q3 q4 q5 q6;go_wp2;go_ret;exact ⟨some (qR q 0),n,c,rfl,HX.o.o.mono (by omega),HX.o.bw,HX.o.small⟩
