import Derived.Test.YtngdgogjlpjjpadGreatP01
import Derived.Test.YtngdgogjlpjjpadGreatP02
namespace Go.Proofs.YtngdgogjlpjjpadGreat
open Go.RowKit
set_option linter.unusedVariables false
theorem BS.drop {w:World} {b off n cap:Nat} {zs:List Int} (h:BS w (some ⟨b,off,none⟩) n cap zs) (k:Nat) (hk:k≤n):BS w (some ⟨b,off+k,none⟩) (n - k) (cap - k) (zs.drop k):=by
 have hl:=h.1
 refine ⟨by simp;omega,by have:=h.2.1;omega,fun z hz=>h.2.2.1 z (List.mem_of_mem_drop hz),fun hn=>⟨b,off+k,rfl,fun i hi=>?_⟩,by have:=h.2.2.2.2;omega⟩
 have:=h.at (k+i) (by omega)
 rw [Nat.add_assoc,this]
 simp [List.getD_eq_getElem?_getD]
theorem BS.take {w:World} {b off n cap:Nat} {zs:List Int} (h:BS w (some ⟨b,off,none⟩) n cap zs) (s:Nat) (hs:s≤n):BS w (some ⟨b,off,none⟩) s cap (zs.take s):=by
 have hl:=h.1
 refine ⟨by simp;omega,by have:=h.2.1;omega,fun z hz=>h.2.2.1 z (List.mem_of_mem_take hz),fun hn=>⟨b,off,rfl,fun i hi=>?_⟩,by have:=h.2.2.2.2;omega⟩
 have:=h.at i (by omega)
 rw [this]
 simp [List.getD_eq_getElem?_getD,hi]
def rd (n1 n2 n3:Nat) (x1 x2:List Int) (p s:Int):Int × Int:=
 if mok n1 n2 n3=true∧wd s=true then
  if (p.tmod s != 0)=true then (0,1)
  else if p=131072 then (0,4)
   else if ins p s 0 n1=true then (low ((x1.drop p.toNat).take s.toNat),0)
   else if ins p s 65536 n2=true then (low ((x2.drop (p - 65536).toNat).take s.toNat),0) else (0,2)
 else (0,2)
theorem BS.some {w:World} {a:Option Addr} {n cap:Nat} {zs:List Int} (h:BS w a n cap zs) (hn:n≠0):∃ b off,a=Option.some ⟨b,off,none⟩:=by
 obtain ⟨b,off,e,_⟩:=h.2.2.2.1 hn
 exact ⟨b,off,e⟩
end Go.Proofs.YtngdgogjlpjjpadGreat
