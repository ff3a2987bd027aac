import Derived.Lib.ItoaNum
import Derived.Test.YtahmgjjgikgpoaaGreatDoorTfJ
namespace Go.Proofs.YtahmgjjgikgpoaaGreatDoor
open Go.RowKit Go.Sort
section
variable {gs:List LGlob} {D:Nat->Nat->Int} {st:ASt}
theorem rEnd_cl(k:Int)(st:ASt):(rEnd k st).cells=st.cells:=by unfold rEnd;split<;>rfl
theorem rRoomS_cl(n:Int)(s:ASt):(rRoomS n s).cells=s.cells:=by
 unfold rRoomS;exact ite_P (P:=λt=>t.cells=s.cells) rfl (rEnd_cl _ _)
theorem rMake_cl(x:MCl)(s:ASt):s.cells.length<=(rMake x s).cells.length:=by
 show _<=(s.cells++[x]).length;simp
theorem rMakeN_cl:∀(n:Nat) (s:ASt),s.cells.length<=(rMakeN n s).cells.length
 |0,_=>Nat.le_refl _
 |n+1,s=>Nat.le_trans (rMakeN_cl n s) (rMake_cl _ _)
theorem rSplit_cl(n:Int)(s:ASt):(rSplit n s).cells=s.cells:=by
 unfold rSplit;exact ite_P (P:=λt=>t.cells=s.cells) (rEnd_cl _ _) rfl
theorem rFork_cl(l:List LAlt)(s:ASt):(rFork l s).cells=s.cells:=by
 unfold rFork;refine ite_P (P:=λt=>t.cells=s.cells) (rEnd_cl _ _) ?_;cases l.find? _ with
 |none=>exact rEnd_cl _ _
 |some a=>rfl
theorem rMakeR_cl(x:MCl)(s t:ASt)(h:t.cells=s.cells):s.cells.length<=(rMake x t).cells.length:=h▸rMake_cl x t
theorem rDoes_cl(i:LIns)(s:ASt):s.cells.length<=(rDoes i s).cells.length:=by
 unfold rDoes rReck;have l1:∀{t:ASt},t.cells=s.cells->s.cells.length<=t.cells.length:=λe=>by rw[e];exact Nat.le_refl _
 repeat' (first|exact l1 (rEnd_cl _ _)|exact l1 (rSplit_cl _ _)|exact l1 (rFork_cl _ _)|exact rMakeR_cl _ _ _ (rRoomS_cl _ _)|exact Nat.le_trans (l1 (rRoomS_cl _ _)) (rMakeN_cl _ _)|refine ite_P (P:=λt=>s.cells.length<=t.cells.length) ?_ ?_|exact l1 rfl|(show _<=(List.set _ _ _).length;rw[List.length_set];exact Nat.le_refl _))
theorem rVal_cl(v:Int)(st:ASt):(rVal v st).1.cells=st.cells:=by unfold rVal;split<;>rfl
theorem rEnter_cl(g:Int)(st:ASt):(rEnter gs g st).cells=st.cells:=by
 unfold rEnter;exact ite_P (P:=λt=>t.cells=st.cells) rfl (rEnd_cl _ _)
theorem rStepS_cl(st:ASt):(rStepS st).cells=st.cells:=by
 unfold rStepS;exact ite_P (P:=λt=>t.cells=st.cells) (rEnd_cl _ _) (ite_P (P:=λt=>t.cells=st.cells) rfl rfl)
theorem aLook_cl:∀(n:Nat) (st:ASt),(aLook gs n st).1.cells=st.cells
 |0,st=>rStepS_cl st
 |n+1,st=>by
  rw[aLook];simp only;split
  ·split
   ·exact aLook_cl n _
   ·split
    ·exact aLook_cl n _
    ·split
     ·exact rEnd_cl _ _
     ·split
      ·split
       ·exact rEnter_cl _ _
       ·exact rVal_cl _ _
      ·split
       ·exact rEnd_cl _ _
       ·exact rVal_cl _ _
  ·exact rStepS_cl st
theorem aDo_cl(st:ASt):st.cells.length<=(aDo gs st).1.cells.length:=by
 unfold aDo;split
 ·simp only;split
  ·exact Nat.le_of_eq (congrArg List.length (aLook_cl (gs:=gs) _ (rNext st)).symm)
  ·split
   ·exact Nat.le_of_eq (congrArg List.length (aLook_cl (gs:=gs) _ (rEval (rNext st))).symm)
   ·exact rDoes_cl _ (rNext st)
 ·exact Nat.le_of_eq (congrArg List.length (rStepS_cl st).symm)
theorem aGo_cl:∀(n:Nat) (r:AR),r.1.cells.length<=(aGo gs n r).1.cells.length
 |0,_=>Nat.le_refl _
 |n+1,(st,none)=>by
  rw[aGo];split
  ·exact Nat.le_refl _
  ·exact Nat.le_trans (aDo_cl st) (aGo_cl n _)
 |n+1,(st,some v)=>Nat.le_refl _
theorem aWork_cl(c:Int)(st:ASt):st.cells.length<=(aWork gs c st).1.cells.length:=Nat.le_trans (Nat.le_of_eq (congrArg List.length (aLook_cl (gs:=gs) _ (aBegin c st)).symm)) (aGo_cl _ _)
abbrev TD:=List UInt8×Int
def tPiece(x:MCl):List UInt8:=if x.kind=1 then Lib.itoa x.n else if x.kind=3 then 40::Lib.itoa x.n else [102,117,110]
def tFl(l:List Int):List TD:=l.flatMap λf=>[([32],-1),([],f)]
def tMore(x:MCl):List TD:=if x.kind=3 then tFl x.fields.reverse++[([41],-1)] else []
abbrev TRes:=ASt×Option (List UInt8)
def tSay(s:List UInt8)(a:ASt)(t:List UInt8)(k:List UInt8->TRes):TRes:=if t.length+s.length<=2000 then k (t++s) else (rEnd 8 a,none)
def tVal(gs:List LGlob)(c:Int)(a:ASt):ASt×Option MCl:=
 let r:=aWork gs c a
 if rStepB r.1 then ({r.1 with steps:=r.1.steps+1},some (cAt r.1 (r.2.getD 0))) else (rStepS r.1,none)
def tTodo(gs:List LGlob):Nat->List TD->ASt->List UInt8->TRes
 |_,[],a,t=>(a,some t)
 |0,_::_,a,_=>(a,none)
 |n+1,(s,c)::L,a,t=>
  if 0<=c then match tVal gs c a with
   |(a1,some x)=>tSay (tPiece x) a1 t λt'=>tTodo gs n (tMore x++L) a1 t'
   |(a1,none)=>(a1,none)
  else tSay s a t λt'=>tTodo gs n L a t'
def tM(L:List TD)(a:ASt):Nat:=1000*mu a+L.length
def TdOk(L:List TD)(a:ASt):Prop:=∀p∈L,p.2<(a.cells.length:Int)
theorem tFl_len:∀l:List Int,(tFl l).length=2*l.length
 |[]=>rfl
 |x::l=>by
  have:=tFl_len l;show(_::_::tFl l).length=2*(x::l).length;simp only[List.length_cons,this];omega
theorem tMore_len{ng nc:Nat}{x:MCl}(h:CellOk ng nc x):(tMore x).length<=511:=by
 have:=h.fl;unfold tMore;split
 ·rw[List.length_append,tFl_len,List.length_reverse];simp;omega
 ·simp
theorem tMore_ok{ng nc:Nat}{x:MCl}(h:CellOk ng nc x):∀p∈tMore x,p.2<(nc:Int):=by
 intro p hp;have h0:(-1:Int)<(nc:Int):=by omega
 unfold tMore at hp;split at hp
 ·rcases List.mem_append.1 hp with hp|hp
  ·obtain⟨f,hf,hp⟩:=List.mem_flatMap.1 hp;simp only[List.mem_cons,List.not_mem_nil,or_false]at hp;rcases hp with rfl|rfl
   ·exact h0
   ·exact(h.f f (List.mem_reverse.1 hf)).2
  ·rw[List.mem_singleton.1 hp];exact h0
 ·cases hp
theorem WfB.step(h:WfB gs st)(hb:rStepB st=true):WfB gs {st with steps:=st.steps+1}:=by
 have h1:=h.steps;have h2:=(rStep_yes h).2 hb;exact⟨h.cells,h.nc,⟨by show 0<=st.steps+1;omega,by show st.steps+1<=st.fuel;omega⟩,h.fuel,h.used,h.spare,h.live⟩
theorem tVal_ok(hG:ImgOk gs D)(h:WfB gs st){c:Int}(hc:0<=c∧c<(st.cells.length:Int)):
 (∃x v,aWork gs c st=({(tVal gs c st).1 with steps:=(tVal gs c st).1.steps-1},some v)∧rStepB (aWork gs c st).1=true∧0<=v∧v<((aWork gs c st).1.cells.length:Int)∧x=cAt (aWork gs c st).1 v∧tVal gs c st=((tVal gs c st).1,some x)∧WfB gs (tVal gs c st).1∧st.cells.length<=(tVal gs c st).1.cells.length∧mu (tVal gs c st).1+1<=mu st∧CellOk gs.length (tVal gs c st).1.cells.length x)∨
 (tVal gs c st=(rStepS (aWork gs c st).1,none)∧rStepB (aWork gs c st).1=false∧(rStepS (aWork gs c st).1).ended=true):=by
 obtain⟨-,hR,hE⟩:=aWork_end hG h hc;have hcl:=aWork_cl (gs:=gs) c st;unfold tVal;generalize aWork gs c st=r at*;obtain⟨a,o⟩:=r;simp only at*;cases hb:rStepB a with
 |false=>
  right
  refine⟨rfl,rfl,?_⟩;unfold rStepB at hb;unfold rStepS rEnd;cases he:a.ended with
  |true=>split<;>simp[he]
  |false=>
   rw[he]at hb;simp only[Bool.not_false,Bool.true_and,decide_eq_false_iff_not,Decidable.not_not]at hb;rw[if_pos hb];rfl
 |true=>
  left
  have hl:a.ended=false:=by
   unfold rStepB at hb;simp only[Bool.and_eq_true,Bool.not_eq_true']at hb;exact hb.1
  cases o with
  |none=>
   rcases hE with h1|h1
   ·exact absurd rfl h1
   ·rw[hl]at h1;cases h1
  |some v=>
   obtain⟨⟨e1,e2,e3⟩,hw,hv⟩:=hR;have hlt:=(rStep_yes hw).2 hb;have hs:=h.steps;refine⟨cAt a v,v,?_,rfl,hv.1,hv.2,rfl,rfl,hw.step hb,hcl,?_,?_⟩
   ·simp
   ·show(a.fuel-(a.steps+1)).toNat+1<=(st.fuel-st.steps).toNat;have f1:a.fuel=st.fuel:=e1;have f3:st.steps<=a.steps:=e3;have f4:a.steps<a.fuel:=hlt;omega
   ·refine hw.cells _ ?_;have hv1:=hv.1;have hv3:=hv.2;have hv2:v.toNat<a.cells.length:=by simp only at hv3;omega
    unfold cAt;rw[List.getElem?_eq_getElem hv2];exact List.getElem_mem hv2
theorem TdOk.more{x:MCl}{p:TD}{L:List TD}{a a1:ASt}(h:TdOk (p::L) a)(hc:CellOk gs.length a1.cells.length x)(hl:a.cells.length<=a1.cells.length):TdOk (tMore x++L) a1:=by
 intro q hq;rcases List.mem_append.1 hq with hq|hq
 ·exact tMore_ok hc q hq
 ·have:=h q (List.mem_cons_of_mem _ hq);omega
theorem TdOk.tail{p:TD}{L:List TD}{a:ASt}(h:TdOk (p::L) a):TdOk L a:=λq hq=>h q (List.mem_cons_of_mem _ hq)
theorem tSay_congr{s:List UInt8}{a:ASt}{t:List UInt8}{k k':List UInt8->TRes}(h:k (t++s)=k' (t++s)):tSay s a t k=tSay s a t k':=by unfold tSay;rw[h]
theorem tTodo_stable(hG:ImgOk gs D):∀(n k:Nat) {L:List TD} {a:ASt} {t:List UInt8},WfB gs a->TdOk L a->tM L a<=n->tM L a<=k->tTodo gs n L a t=tTodo gs k L a t
 |n,k,[],a,t,_,_,_,_=>by cases n<;>cases k<;>rfl
 |0,_,p::L,a,t,_,_,hn,_=>by unfold tM at hn;simp at hn
 |_+1,0,p::L,a,t,_,_,_,hk=>by unfold tM at hk;simp at hk
 |n+1,k+1,(s,c)::L,a,t,hW,hT,hn,hk=>by
  rw[tTodo,tTodo];unfold tM at hn hk;rw[List.length_cons]at hn hk;split
  ·rename_i h0
   rcases tVal_ok hG hW ⟨h0,hT _ (List.mem_cons_self ..)⟩ with⟨x,v,-,-,-,-,-,e,hW1,hl,hm,hc⟩|⟨e,-,-⟩
   ·rw[e];have:=tMore_len hc;refine tSay_congr (tTodo_stable hG n k hW1 (hT.more hc hl) ?_ ?_)<;>(unfold tM;rw[List.length_append];omega)
   ·rw[e]
  ·exact tSay_congr (tTodo_stable hG n k hW hT.tail (by unfold tM;omega) (by unfold tM;omega))
def tEnd(gs:List LGlob)(L:List TD)(a:ASt)(t:List UInt8):TRes:=tTodo gs (tM L a) L a t
theorem tEnd_nil(a:ASt)(t:List UInt8):tEnd gs [] a t=(a,some t):=by unfold tEnd;cases tM [] a<;>rfl
theorem tEnd_cell(hG:ImgOk gs D){s:List UInt8}{c:Int}{L:List TD}{a:ASt}{t:List UInt8}(hW:WfB gs a)(hT:TdOk ((s,c)::L) a)(h0:0<=c):tEnd gs ((s,c)::L) a t=match tVal gs c a with
 |(a1,some x)=>tSay (tPiece x) a1 t λt'=>tEnd gs (tMore x++L) a1 t'
 |(a1,none)=>(a1,none):=by
 rw[tEnd,tM,List.length_cons,show 1000*mu a+(L.length+1)=(1000*mu a+L.length)+1 from rfl,tTodo,if_pos h0];rcases tVal_ok hG hW ⟨h0,hT _ (List.mem_cons_self ..)⟩ with⟨x,v,-,-,-,-,-,e,hW1,hl,hm,hc⟩|⟨e,-,-⟩
 ·rw[e];have:=tMore_len hc;exact tSay_congr (tTodo_stable hG _ _ hW1 (hT.more hc hl) (by unfold tM;rw[List.length_append];omega) (Nat.le_refl _))
 ·rw[e]
theorem tEnd_piece{s:List UInt8}{c:Int}{L:List TD}{a:ASt}{t:List UInt8}(h0:¬0<=c):tEnd gs ((s,c)::L) a t=tSay s a t λt'=>tEnd gs L a t':=by
 rw[tEnd,tM,List.length_cons,show 1000*mu a+(L.length+1)=(1000*mu a+L.length)+1 from rfl,tTodo,if_neg h0];rfl
theorem tEnd_app(hG:ImgOk gs D):∀(n:Nat) {X L:List TD} {a:ASt} {t:List UInt8},WfB gs a->TdOk X a->TdOk L a->tM X a<=n->
 (∃a1 t1,tEnd gs X a t=(a1,some t1)∧tEnd gs (X++L) a t=tEnd gs L a1 t1∧WfB gs a1∧a.cells.length<=a1.cells.length∧a1.fuel=a.fuel∧a1.spare=a.spare)∨(∃a1,tEnd gs X a t=(a1,none)∧tEnd gs (X++L) a t=(a1,none)∧a1.ended=true)
 |_,[],L,a,t,hW,_,_,_=>Or.inl ⟨a,t,tEnd_nil a t,rfl,hW,Nat.le_refl _,rfl,rfl⟩
 |0,_::_,_,_,_,_,_,_,hn=>by unfold tM at hn;simp at hn
 |n+1,(s,c)::X,L,a,t,hW,hT,hL,hn=>by
  unfold tM at hn;rw[List.length_cons]at hn;have hT2:TdOk ((s,c)::(X++L)) a:=λp hp=>(List.mem_append.1 (show p∈((s,c)::X)++L from hp)).elim (hT p) (hL p);by_cases h0:0<=c
  ·rw[tEnd_cell hG hW hT h0,List.cons_append,tEnd_cell hG hW hT2 h0];rcases tVal_ok hG hW ⟨h0,hT _ (List.mem_cons_self ..)⟩ with⟨x,v,ew,-,-,-,-,e,hW1,hl,hm,hc⟩|⟨e,-,hee⟩
   ·obtain⟨-,hR,-⟩:=aWork_end hG hW (c:=c) ⟨h0,hT _ (List.mem_cons_self ..)⟩;have hfu:(tVal gs c a).1.fuel=a.fuel:=by rw[ew]at hR;exact hR.1.1
    have hsp:(tVal gs c a).1.spare=a.spare:=by rw[ew]at hR;exact hR.1.2.1
    rw[e];generalize (tVal gs c a).1=a1 at*;have:=tMore_len hc;simp only;unfold tSay;split
    ·rcases tEnd_app hG n (X:=tMore x++X) (L:=L) (a:=a1) (t:=t++tPiece x) hW1 (hT.more hc hl) (λp hp=>by have:=hL p hp;omega) (by unfold tM;rw[List.length_append];omega) with⟨b,t1,e1,e2,e3,e4,e5,e6⟩|⟨b,e1,e2,e3⟩
     ·exact Or.inl ⟨b,t1,e1,by rw[<-e2,List.append_assoc],e3,by omega,e5.trans hfu,e6.trans hsp⟩
     ·exact Or.inr ⟨b,e1,by rw[<-e2,List.append_assoc],e3⟩
    ·exact Or.inr ⟨_,rfl,rfl,by unfold rEnd;rw[hW1.live];rfl⟩
   ·rw[e];exact Or.inr ⟨_,rfl,rfl,hee⟩
  ·rw[tEnd_piece h0,List.cons_append,tEnd_piece h0];unfold tSay;split
   ·exact tEnd_app hG n hW hT.tail hL (by unfold tM;omega)
   ·exact Or.inr ⟨_,rfl,rfl,by unfold rEnd;rw[hW.live];rfl⟩
end
section
variable {gs:List LGlob}
def SF(a b:ASt):Prop:=b.steps=a.steps∧b.fuel=a.fuel
theorem rEnd_sf(k:Int)(st:ASt):SF st (rEnd k st):=by unfold rEnd SF;split<;>exact⟨rfl,rfl⟩
theorem rRoomS_sf(n:Int)(s:ASt):SF s (rRoomS n s):=by
 unfold rRoomS;exact ite_P (P:=λt=>SF s t) ⟨rfl,rfl⟩ (rEnd_sf _ _)
theorem rMakeR_sf(x:MCl)(s t:ASt)(h:SF s t):SF s (rMake x t):=h
theorem rMakeN_sf(n:Nat)(s t:ASt)(h:SF s t):SF s (rMakeN n t):=by
 induction n with
 |zero=>exact h
 |succ n ih=>exact ih
theorem rSplit_sf(n:Int)(s:ASt):SF s (rSplit n s):=by
 unfold rSplit;exact ite_P (P:=λt=>SF s t) (rEnd_sf _ _) ⟨rfl,rfl⟩
theorem rFork_sf(l:List LAlt)(s:ASt):SF s (rFork l s):=by
 unfold rFork;refine ite_P (P:=λt=>SF s t) (rEnd_sf _ _) ?_;cases l.find? _ with
 |none=>exact rEnd_sf _ _
 |some a=>exact⟨rfl,rfl⟩
theorem rDoes_sf(i:LIns)(s:ASt):SF s (rDoes i s):=by
 unfold rDoes rReck;repeat' (first|exact rEnd_sf _ _|exact rSplit_sf _ _|exact rFork_sf _ _|exact rMakeR_sf _ _ _ (rRoomS_sf _ _)|exact rMakeN_sf _ _ _ (rRoomS_sf _ _)|refine ite_P (P:=λt=>SF s t) ?_ ?_|exact⟨rfl,rfl⟩)
def LeF(a:ASt):Prop:=a.steps<=a.fuel
theorem LeF.sf{a b:ASt}(h:LeF a)(k:SF a b):LeF b:=by unfold LeF at*;rw[k.1,k.2];exact h
theorem LeF.next{a b:ASt}(h:LeF a)(hb:rStepB a=true)(h1:b.steps=a.steps+1)(h2:b.fuel=a.fuel):LeF b:=by
 unfold rStepB at hb;unfold LeF at*;simp only[Bool.and_eq_true,decide_eq_true_eq]at hb;have:=hb.2;rw[h1,h2];omega
theorem rStepS_le{a:ASt}(h:LeF a):LeF (rStepS a):=by
 unfold rStepS;split
 ·exact h.sf (rEnd_sf _ _)
 ·split
  ·exact h
  ·unfold LeF at*;show a.steps+1<=a.fuel;omega
theorem rVal_le{a:ASt}(v:Int)(h:LeF a):LeF (rVal v a).1:=by unfold rVal;split<;>exact h
theorem rEnter_le{a:ASt}(g:Int)(h:LeF a):LeF (rEnter gs g a):=by
 unfold rEnter;exact ite_P (P:=λt=>LeF t) h (h.sf (rEnd_sf _ _))
theorem aLook_le:∀(n:Nat) (st:ASt),LeF st->LeF (aLook gs n st).1
 |0,st,h=>rStepS_le h
 |n+1,st,h=>by
  rw[aLook];simp only;split
  ·rename_i hb
   have h1:LeF {st with steps:=st.steps+1}:=h.next hb rfl rfl;split
   ·exact aLook_le n _ h1
   ·split
    ·exact aLook_le n _ h1
    ·split
     ·exact h1.sf (rEnd_sf _ _)
     ·split
      ·split
       ·exact rEnter_le _ h1
       ·exact rVal_le _ h1
      ·split
       ·exact h1.sf (rEnd_sf _ _)
       ·exact rVal_le _ h1
  ·exact rStepS_le h
theorem aDo_le(st:ASt)(h:LeF st):LeF (aDo gs st).1:=by
 unfold aDo;split
 ·rename_i hb
  have h1:LeF (rNext st):=h.next hb rfl rfl;simp only;split
  ·exact aLook_le _ _ h1
  ·split
   ·exact aLook_le _ (rEval (rNext st)) h1
   ·exact h1.sf (rDoes_sf _ _)
 ·exact rStepS_le h
theorem aGo_le:∀(n:Nat) (r:AR),LeF r.1->LeF (aGo gs n r).1
 |0,_,h=>h
 |n+1,(st,none),h=>by
  rw[aGo];split
  ·exact h
  ·exact aGo_le n _ (aDo_le st h)
 |n+1,(st,some v),h=>h
theorem aWork_le(c:Int){st:ASt}(h:LeF st):LeF (aWork gs c st).1:=aGo_le _ _ (aLook_le _ (aBegin c st) h)
theorem rStepS_yes{st:ASt}(hb:rStepB st=true):rStepS st={st with steps:=st.steps+1}:=by
 unfold rStepB at hb;simp only[Bool.and_eq_true,decide_eq_true_eq,Bool.not_eq_true']at hb;unfold rStepS;rw[if_neg hb.2,hb.1];rfl
end
end Go.Proofs.YtahmgjjgikgpoaaGreatDoor
