import Derived.Test.YtdjdcdnjjmjonaaGreatR41
set_option linter.all false
namespace Go.Proofs.YtdjdcdnjjmjonaaGreat
open Go.ChangeShapes Go.WideShapes Go.ChangeAt Go.RowKit
set_option maxRecDepth 100000 in
theorem sZ (u:Os)(b:u.Started)(H:Type)(enc:TypeId×Value->H):
 ReturnsInHanded {} Tryz.checked u 4 .any (Rows.fnExactRunSpec.pre6 enc Tryz.prog Tryz.f4 Rows.fnExactRunRow.domain false) (Rows.fnExactRunSpec.post enc Tryz.prog Tryz.f4 false true false false):=by
 refine returnsInHanded_of_change (C:=Tryz.checked) own b Je Tryz.func4
  (ChangeSpec.witness6 (enc:=enc) (C:=Tryz.checked) false ⟨#[],#[.agg #[.slice none 0 0,.int .i64 0,.int .i64 0,.int .i64 0,.int .i64 0,.int .i64 0,.slice none 0 0,.slice none 0 0,.slice none 0 0,.slice none 0 0,.int .i64 0,.int .i64 0,.slice none 0 0,.slice none 0 0,.int .i64 0],.int .i64 0],[]⟩ 8 Je Je Je Je) ?_
 intro W Q I D G g a y l _;have d:∀(j:Nat)t v,Tryz.f4.params[j]?=some t->I[j]?=some v->Value.okWide Tryz.prog W .any Q t v:=a;have k:=y;obtain⟨p,q,M,U,rfl,a3,a4⟩:=y;have s:DataW.TrodAll enc Tryz.prog W 0 (λ_=>true) true Tryz.f4.params.toList I.toList D p:=M;rw[Tryz.params4]at s d;obtain⟨N,a5,d0,a0,A,q0,a2,rfl,rfl,K,Z⟩:=trodAll_cons s;obtain⟨v1,a6,d1,a1,p1,q1,rfl,rfl,rfl,S,r1⟩:=trodAll_cons Z;obtain⟨rfl,rfl,rfl⟩:=trodAll_nil r1;obtain rfl:I=#[N,v1]:=by grind
 obtain⟨rfl,rfl⟩:=trodVars_none U;have w:=K;have i:∀x∈A,x.block<W.heap.size:=by obtain⟨m,V⟩:=w;exact DataW.trod_lt m _ _ _ V
 obtain⟨X,rfl,Y⟩:=aEj (d 0 34 N rfl rfl) K;obtain⟨P,rfl,rfl,rfl,O⟩:=open_int Tryz.underlying3 (d 1 3 v1 rfl rfl) S;clear M a;refine(aBv X P W Y$ wf_i64 O).mono λe E⟨B,f⟩=>?_;subst B;exact⟨_,rfl,_,_,_,[],_,[],k,trodAll_mk1$ shut_bool Tryz.underlying4 _,(trodAll_cons_mk (Below.trod aS0 Je (of_decide_eq_true Je) w f i)$ trodAll_cons_mk (shut_int Tryz.underlying3 O) trodAll_mk0),rfl,f.frame _,λh=>by cases h⟩
theorem FnExactRun_proved:Rows.FnExactRunSaid:=
 OpenClaim.holds_of_wide 4 Tryz.f4 rfl rfl rfl rfl rfl rfl rfl ⟨rfl,rfl,rfl,rfl,rfl⟩ rfl rfl rfl rfl rfl uN Tryz.func4 tU
  (of_decide_eq_true (by as_aux_lemma=>kernel_rfl)) (by unfold Func.isWrapper;first|(rw[if_pos (by decide +kernel)];kernel_rfl)|(rw[if_neg (by decide +kernel)];exact⟨rfl,rfl⟩))
  (λb a H d _=>sZ b a H d)
#print axioms FnExactRun_proved
