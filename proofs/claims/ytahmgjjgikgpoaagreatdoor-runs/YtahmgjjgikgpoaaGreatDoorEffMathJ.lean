import Derived.Test.YtahmgjjgikgpoaaGreatDoorWildJJ
import Derived.Test.YtahmgjjgikgpoaaGreatDoorVals2J
namespace Go.Proofs.YtahmgjjgikgpoaaGreatDoor
open Go.RowKit
theorem insG_a(m:Nat)(hm:m<21)(a:Int)(alts:List LAlt)(h:insG m a alts=true):(m≠0->0<=a∧a<=65535)∧((m=2∨m=4∨m=5∨m=6∨m=7)->a<=1000)∧(m=7->1<=a)∧(m=16->a<=255)∧(m≠17->alts=[])∧(m=17->altsGood alts=true):=by
 simp only[insG]at h;rw[if_pos (by omega)]at h;have ht:((m:Int)).toNat=m:=by omega
 rw[ht]at h;rcases all21 m hm with rfl|rfl|rfl|rfl|rfl|rfl|rfl|rfl|rfl|rfl|rfl|rfl|rfl|rfl|rfl|rfl|rfl|rfl|rfl|rfl|rfl;all_goals
  simp[rowN,rowsTab]at h;first
   |(simp[h];done)
   |(obtain⟨h1,h2⟩:=h;simp[h1,h2];done)
   |(obtain⟨⟨h1,h2⟩,h3⟩:=h;refine⟨λ_=>⟨by omega,by omega⟩,by omega,by omega,by omega,λ_=>h1,by omega⟩)
theorem eff_math(m:Nat)(hm:m<21)(a d:Int)(alts:List LAlt)(hg:insG m a alts=true)(h0:0<=d)(h1:d<=100000):
 fitsV m a d=!wrongR m a d∧(wrongR m a d=false->behV m a d=d+moreR m a∧0<=d+moreR m a∧d+moreR m a<=1000):=by
 obtain⟨a1,a2,a3,a4,-,-⟩:=insG_a m hm a alts hg;clear hg;by_cases hm0:m=0
 ·subst hm0;refine⟨?_,?_⟩
  ·rw[Bool.eq_iff_iff];simp[fitsV,needV,behV,wrongR,needR,moreR,rowN,rowsTab,amt,wrap64];try omega
  ·simp[behV,wrongR,needR,moreR,rowN,rowsTab,amt,wrap64];try omega
 ·obtain⟨b1,b2⟩:=a1 hm0;clear a1;have ht:a.tmod 256=a % 256:=Int.tmod_eq_emod_of_nonneg b1;rcases all21 m hm with rfl|rfl|rfl|rfl|rfl|rfl|rfl|rfl|rfl|rfl|rfl|rfl|rfl|rfl|rfl|rfl|rfl|rfl|rfl|rfl|rfl
  ·exact absurd rfl hm0
  all_goals
   clear hm hm0;refine⟨?_,?_⟩
   ·rw[Bool.eq_iff_iff];simp[fitsV,needV,behV,wrongR,needR,moreR,rowN,rowsTab,amt,wrap64];try(first|omega|(rw[ht];omega))
   ·simp[behV,wrongR,needR,moreR,rowN,rowsTab,amt,wrap64];try(first|omega|(rw[ht];omega))
end Go.Proofs.YtahmgjjgikgpoaaGreatDoor
