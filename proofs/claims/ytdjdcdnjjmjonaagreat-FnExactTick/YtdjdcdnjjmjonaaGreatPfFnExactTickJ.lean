import Derived.Test.YtdjdcdnjjmjonaaGreatT25
set_option linter.all false
namespace Go.Proofs.YtdjdcdnjjmjonaaGreat
open Go.ChangeShapes Go.WideShapes Go.ChangeAt Go.RowKit
set_option maxRecDepth 100000 in
def qQ (s:Os)(b:s.Started)(H:Type)(enc:TypeId×Value->H):
 ReturnsInHanded {} Tryz.checked s 3 .any (Rows.fnExactTickSpec.pre6 enc Tryz.prog Tryz.f3 Rows.fnExactTickRow.domain false) (Rows.fnExactTickSpec.post enc Tryz.prog Tryz.f3 false true false false):=by
 refine returnsInHanded_of_change (C:=Tryz.checked) own b Je Tryz.func3
  (ChangeSpec.witness6 (enc:=enc) (C:=Tryz.checked) false ⟨#[],#[.agg qZ],[]⟩ 8 Je Je Je Je) ?_
 intro W N G A E g a l w _;have d:∀(j:Nat)t v,Tryz.f3.params[j]?=some t->G[j]?=some v->Value.okWide Tryz.prog W .any N t v:=a;have k:=l;obtain⟨p,q,K,O,rfl,Y,Z⟩:=l;have y:DataW.TrodAll enc Tryz.prog W 0 (λ_=>true) true Tryz.f3.params.toList G.toList A p:=K;rw[Tryz.params3]at y d;obtain⟨M,a0,U,V,B,q0,X,rfl,rfl,I,S⟩:=trodAll_cons y;obtain⟨rfl,rfl,rfl⟩:=trodAll_nil S;obtain rfl:G=#[M]:=by grind
 obtain⟨rfl,rfl⟩:=trodVars_none O;have u:=I;have i:∀x∈B,x.block<W.heap.size:=by obtain⟨m,P⟩:=u;exact DataW.trod_lt m _ _ _ P
 obtain⟨Q,rfl,R⟩:=aDo (d 0 34 M rfl rfl) I;clear K a;refine(yV Q W R).mono λe F⟨D,f⟩=>?_;subst D;exact⟨_,rfl,_,_,_,[],_,[],k,trodAll_mk1$ shut_bool Tryz.underlying4 _,(trodAll_cons_mk (Below.trod aR3 Je (of_decide_eq_true Je) u f i) trodAll_mk0),rfl,f.frame _,λh=>by cases h⟩
theorem FnExactTick_proved:Rows.FnExactTickSaid:=
 OpenClaim.holds_of_wide 3 Tryz.f3 rfl rfl rfl rfl rfl rfl rfl ⟨rfl,rfl,rfl,rfl,rfl⟩ rfl rfl rfl rfl rfl sJ Tryz.func3 rS
  (of_decide_eq_true (by as_aux_lemma=>kernel_rfl)) (by unfold Func.isWrapper;first|(rw[if_pos (by decide +kernel)];kernel_rfl)|(rw[if_neg (by decide +kernel)];exact⟨rfl,rfl⟩))
  (λb a H d _=>qQ b a H d)
#print axioms FnExactTick_proved
