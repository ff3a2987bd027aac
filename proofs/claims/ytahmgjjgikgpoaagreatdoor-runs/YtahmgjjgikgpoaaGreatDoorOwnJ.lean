import Derived.Test.YtahmgjjgikgpoaaGreatDoorRoomDefsJ
set_option maxHeartbeats 1000000
namespace Go.Proofs.YtahmgjjgikgpoaaGreatDoor
open Go.RowKit
def firstBad(p:LIns->Nat->Bool)(l:List LIns):Option Nat:=(List.range l.length).find? λi=>match l[i]? with|some x=>p x i|none=>false
theorem firstBad_some(p:LIns->Nat->Bool)(l:List LIns)(k:Nat)(hk:k<l.length)(hp:p l[k] k=true)(hb:∀j (h:j<l.length),j<k->p l[j] j=false):firstBad p l=some k:=by
 unfold firstBad;rw[List.find?_range_eq_some];refine⟨by simp[hk,hp],by simpa using hk,λj hj=>?_⟩;have hj':j<l.length:=by omega
 simp[hj',hb j hj' hj]
theorem firstBad_none(p:LIns->Nat->Bool)(l:List LIns)(hb:∀j (h:j<l.length),p l[j] j=false):firstBad p l=none:=by
 unfold firstBad;rw[List.find?_eq_none];intro j hj;have hj':j<l.length:=by simpa using hj
 simp[hj',hb j hj']
theorem firstBad_next(p:LIns->Nat->Bool)(l:List LIns)(k:Nat)(hk:k<l.length)(ha:∀j (h:j<l.length),j<k->p l[j] j=false)(hp:p l[k] k=false):∀j (h:j<l.length),j<k+1->p l[j] j=false:=by
 intro j h hj;by_cases e:j=k
 ·subst e;exact hp
 ·exact ha j h (by omega)
def pairOf:Option Nat->Value
 |some k=>.tuple #[.int .i64 (k:Int),.bool true]
 |none=>.tuple #[.int .i64 0,.bool false]
def badIdx(known:Int)(x:LIns)(_:Nat):Bool:=(x.op==1) && decide (known<=x.a)
theorem ret_val{a b:Value}(h:a=b):Ending.returned a=.returned b:=by rw[h]
theorem wildIndex_any(v:Value)(code:List LIns)(known:Int)(w:World)(hc:CodeAt w v code):
 Calls Tryz.prog 65 #[v,.int .i64 known] w λe w'=>e=.returned (pairOf (firstBad (badIdx known) code))∧Below w.heap.size w w':=by
 obtain⟨p,cap,rfl,hs1,hcell⟩:=hc.open;have HC:Hid (∀w',Below w.heap.size w w'->CodeIn w' p code):=hcell;clear hcell hc;go_enter Tryz.func65,Tryz.ntmps65;go_wp2;go_loopw [10] (λi wr=>∃k:Nat,k<=code.length∧i=.int .i64 k∧Hid (∀j (h:j<code.length),j<k->badIdx known code[j] j=false)∧Below w.heap.size w wr) (λi _=>code.length-(intOf i).toNat)
 case atStart=>exact⟨0,Nat.zero_le _,rfl,λ_ _ h=>absurd h (by omega),Below.refl _ _⟩
 case round=>
  obtain⟨k,hk,rfl,ha,hb⟩:=hrel;by_cases hlt:k<code.length
  ·obtain⟨b,o,ap,an,ac,rfl,c0,c1,c2,_⟩:=HC.out _ hb k hlt;have HB:Hid (badIdx known code[k] k=((code[k].op==1) && decide (known<=code[k].a))):=rfl;generalize code[k].op=op at*;generalize code[k].a=a at*;go_wp2;any_goals
    go_ret2
    exact⟨by rw[firstBad_some _ _ k hlt (by rw[HB.out];simp_all) ha.out];rfl,hb.alloc hb.size _⟩
   all_goals exact⟨⟨k+1,by omega,by go_num,firstBad_next _ _ k hlt ha.out (by rw[HB.out];simp_all),hb.alloc hb.size _⟩,by simp[intOf];omega⟩
  ·go_wp2;go_ret2
   exact⟨by rw[firstBad_none _ _ (λj h=>ha.out j h (by omega))];rfl,hb⟩
end Go.Proofs.YtahmgjjgikgpoaaGreatDoor
namespace Go.Proofs.YtahmgjjgikgpoaaGreatDoor
open Go.RowKit Go.Sort
def Fr(bs:List Nat)(w w':World):Prop:=∀b∈bs,w'.heap[b]?=w.heap[b]?
theorem Fr.refl(bs:List Nat)(w:World):Fr bs w w:=λ_ _=>rfl
theorem Fr.trans{bs:List Nat}{w w1 w2:World}(h:Fr bs w w1)(k:Fr bs w1 w2):Fr bs w w2:=λb hb=>(k b hb).trans (h b hb)
def vB(v:Value):List Nat:=v.ownBlock.toList
theorem mem_vB{v:Value}{b:Nat}:b∈vB v↔v.ownBlock=some b:=by
 unfold vB;cases v.ownBlock<;>simp[eq_comm]
theorem vB_slice(g n c:Nat):vB (.slice (some ⟨g,0,none⟩) n c)=[g]:=rfl
theorem vB_nil(n c:Nat):vB (.slice none n c)=[]:=rfl
theorem row_fr{w w':World}{B:Nat}{e:TypeId}{size n:Nat}{v:Value}{xs:List Value}(h:w.ownsRow B e size v n xs)(hf:Fr (vB v) w w'):w'.ownsRow B e size v n xs:=by
 refine⟨h.1,?_⟩;rcases h.2 with hn|⟨g,cap,cur,rfl,hb,hgg,rest⟩
 ·exact .inl hn
 ·refine .inr ⟨g,cap,cur,rfl,hb,?_,rest⟩;rw[hf g (by simp[vB,Value.ownBlock])];exact hgg
section
variable {α:Type} (cells:α->List Value) (sub:α->List Nat) (ok:World->α->Prop) (e:TypeId) (size:Nat)
variable {cells:α->List Value} {sub:α->List Nat} {ok:World->α->Prop} {e:TypeId} {size:Nat}
end
def insC(x:LIns×Value):List Value:=[.int .i64 x.1.op,.int .i64 x.1.a,x.2]
theorem row_at{w:World}{e:TypeId}{size n:Nat}{v:Value}{xs:List Value}(h:w.ownsRow 0 e size v n xs):(v=.slice none 0 0∧n=0)∨∃g cap,v=.slice (some ⟨g,0,none⟩) n cap∧g<w.heap.size∧∀j,j<n*size->w.cell? ⟨g,j,none⟩=xs[j]?:=by
 rcases h.2 with⟨h1,h2⟩|⟨g,cap,cur,rfl,hb,hgg,rest⟩
 ·exact Or.inl ⟨h1,h2⟩
 ·exact Or.inr ⟨g,cap,rfl,(row_lt h).1,λj hj=>h.cellAt j hj⟩
end Go.Proofs.YtahmgjjgikgpoaaGreatDoor
