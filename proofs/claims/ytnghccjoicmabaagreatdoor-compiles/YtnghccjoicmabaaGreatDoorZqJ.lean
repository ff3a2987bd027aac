import Derived.Test.YtnghccjoicmabaaGreatDoorZnJ
set_option maxRecDepth 100000
set_option maxHeartbeats 8000000
open Go renaming Value->X,World->Q
open Go.IntKind renaming i64->C
open Go.Value renaming int->V,slice->W
namespace Go.Proofs.YtnghccjoicmabaaGreatDoor
open Go.RowKit Go.Sort
variable{w v b d:Nat}{n h w0:World}{wa nc:List As}{M:TypeId}{wb:List Value}{e:Cc}{t:List Nat}{r:KS}{wx:Es}{ws:List TT}{m q f:Value}{w8:List G7}
theorem Sp.OT{L':List As}(b:Sp w n wa)(c:∀a,(fp L').count a<=(fp wa).count a)(f:∀e∈L',e.h n):Sp w n L':=
 ⟨b.z,f,Ag7.2 λa=>Ac5 (c a) (Ag7.1 b.nd a),λd g=>b.rg d (Aca.1 (Ac2 (Aca.2 g) (c d)))⟩
theorem Bn.OT{h:Nat}{i b:Q}{c d L':List As}(a:Bn h i c b d)(g:∀e,(fp L').count e<=(fp d).count e)(k:∀j∈L',j.h b):Bn h i c b L':=
 ⟨a.af,a.s.OT g k,λf l=>a.nb f (Aca.1 (Ac2 (Aca.2 l) (g f)))⟩
theorem MJ{t:Nat}{u:X}(e:n.ownsRow 0 M w (W (some ⟨b,0,none⟩) v d) v wb):(n.setCell ⟨b,t,none⟩ u).ownsRow 0 M w (W (some ⟨b,0,none⟩) v d) v (wb.set t u):=by
 obtain⟨f,g|⟨p,o,a,c,h,j,l,k,i,m⟩⟩:=e
 ·cases g.1
 cases c;refine⟨by simpa using f,.inr ⟨b,d,a.setIfInBounds t u,rfl,h,?_,l,k,by simpa using i,?_⟩⟩
 ·show(n.heap.modify b (onCells (·.setIfInBounds t u)))[b]?=_;rw[Array.getElem?_modify,if_pos rfl,j];rfl
 ·rw[Array.toList_setIfInBounds,List.take_set,m]
theorem I3(e:X)(d:Bp×X)(c:Nat)(j:c<3):∀{b:Es} {a:Nat} hj,(ER b[a]).set c e=ER d->(b.flatMap ER).set (a*3+c) e=(b.set a d).flatMap ER
 |f::b,0,_,h=>by
  show _=(d::b).flatMap ER;rw[Adh,Adh,<-h,List.set_append_left _ _ (by show 0*3+c<3;omega),Nat.zero_mul,Aey];rfl
 |f::b,a+1,hj,h=>by
  have i:a<b.length:=by simpa using hj
  have g:(ER f).length=3:=rfl;show _=(f::b.set a d).flatMap ER;rw[Adh,Adh,<-I3 e d c j i h,Abb _ _ (by omega),g,show(a+1)*3+c-3=a*3+c by omega]
theorem At.lens{wr:Q}(i:At e t n r wr):∃b cc d c,wr.cell? ⟨e.K,2,none⟩=some (W b r.code.length cc)/\wr.cell? ⟨e.K,4,none⟩=some (W d r.loc.length c)/\r.code.length<=r.z/\r.loc.length<=r.z:=by
 let ⟨l,⟨f,p,g,j,o,q,a⟩,m⟩:=i.cm
 obtain⟨b,cc,rfl⟩:=Ad (a.s.mem (A:=cA g f) (by simp));obtain⟨d,c,rfl⟩:=Ad (a.s.mem (A:=lA j r.loc) (by simp));have h:f.length=r.code.length:=by rw[<-a.hc,Adf]
 exact⟨b,cc,d,c,by rw[<-h];exact a.k.c2,a.k.c4,a.z.1,a.z.2.1⟩
theorem OX.row{wr:Q}{n:X}(c:OX e r wr t wx ws m q n f){j:Nat}(y:j<r.code.length):∃g cc,m=W (some ⟨g,0,none⟩) wx.length cc/\wr.cell? ⟨e.K,2,none⟩=some (W (some ⟨g,0,none⟩) r.code.length cc)/\(∀a,wr.frozen? ⟨g,a,none⟩=false)/\∃z,wx[j].1=r.code[j]/\∀a i,(ER wx[j])[a]?=some i->wr.cell? ⟨g,j*3+a,none⟩=some i:=by
 have h:wx.length=r.code.length:=by rw[<-c.hc,Adf]
 have d:=c.s.mem (A:=cA m wx) (by simp);obtain⟨u,cc,rfl⟩:=Ad d;obtain⟨l,o,rfl,-,x⟩:=(Cn (size:=3) (λ_=>rfl) d).2 (λb=>by rw[Aa4.1 b]at h;simp at h;omega);obtain rfl:o=0:=by rcases d.2 with⟨b,-⟩|⟨g,p,v,b,-⟩<;>cases b;rfl
 refine⟨l,cc,rfl,by rw[<-h];exact c.k.c2,λa=>d.frozenAt a,by omega,?_,λa i B=>?_⟩
 ·have w:r.code[j]=(wx.map (·.1))[j]'(by grind):=by simp[c.hc]
  grind
 grind
theorem Rv(a:Bp×X):(wx.set w a).map (·.1)=(wx.map (·.1)).set w a.1:=by simp
theorem At.ep{k:List Nat}{wr:Q}(l:At e k n r wr){j:Nat}(i:j<r.code.length):∃g cc c,wr.cell? ⟨e.K,2,none⟩=some (W (some ⟨g,0,none⟩) r.code.length cc)/\wr.frozen? ⟨g,j*3+1,none⟩=false/\wr.cell? ⟨g,j*3+1,none⟩=some c/\∀a,At e k n {r with code:=r.code.set j {r.code[j]with a:=a}} (wr.setCell ⟨g,j*3+1,none⟩ (V C a)):=by
 let ⟨G,⟨b,D,H,B,y,E,f⟩,x⟩:=l.cm
 obtain⟨g,cc,rfl,q,v,w,p,h⟩:=f.row i;refine⟨g,cc,_,q,v _,h 1 _ rfl,λa=>?_⟩;have m:=f.s.dv.set (L1:=[_]) (j:=j*3+1) (u:=V C a) (A':=cA (W (some ⟨g,0,none⟩) b.length cc) (b.set j ({b[j].1 with a:=a},b[j].2))) rfl rfl (by
  have:=MJ (t:=j*3+1) (u:=V C a) (f.s.mem (A:=cA (W (some ⟨g,0,none⟩) b.length cc) b) (by simp));rw[I3 (V C a) ({b[j].1 with a:=a},b[j].2) 1 (by omega) w rfl]at this;grind)
 have o:(b.set j ({b[j].1 with a:=a},b[j].2)).flatMap (λc=>vB c.2)=b.flatMap λc=>vB c.2:=by
  have:∀(d:Es) (j:Nat) (i:j<d.length),(d.set j ({d[j].1 with a:=a},d[j].2)).flatMap (λc=>vB c.2)=d.flatMap λc=>vB c.2:=λd=>by
   induction d with
   |nil=>simp
   |cons c d ih=>intro j i;cases j with
    |zero=>rfl
    |succ j=>grind
  grind
 refine l.turn f x (b.set j ({b[j].1 with a:=a},b[j].2)) D _ B y E (m.same (L1:=[_,_,_]) o λc h=>?_) (by rw[Rv,f.hc,p]) f.ht (λc h=>.inl h) (by have:=f.z;unfold X7 at*;simp;omega);have I:=m.mem (A:=aA b) (by simp);grind
theorem At.gk{wr:Q}{n':Nat}{xs':List X}(d:At {e with E:=wa++pA w v m b wb::nc} t n r wr)(k:Below wr.heap.size wr h)(o:IY h w v m q n' xs' w0):At {e with E:=wa++pA w v q n' xs'::nc} t n r w0:=by
 let ⟨u,⟨a,p,c,i,g,j,f⟩,l⟩:=d.cm
 refine At.ej d f l (wa++pA w v q n' xs'::nc) ?_;exact(f.s.dv.cJ k).ek (L1:=kA e c r.AB i::cA c a::lA i r.loc::aA a::uA e.U g j e.gv::nA g r.kn::tA j p::wa) o
theorem At.fF{d:Cc}{wr:Q}{e size:Nat}(f:At {d with E:=wa++nc} t n r wr):At {d with E:=wa++pA e size (W none 0 0) 0 []::nc} t n r wr:=by
 let ⟨i,⟨k,p,l,o,m,q,b⟩,h⟩:=f.cm
 refine At.ej f b h (wa++pA e size (W none 0 0) 0 []::nc) (b.s.dv.OT (λj=>by simp[fp,EM]) λc a=>?_);by_cases g:c=pA e size (W none 0 0) 0 []
 ·subst g;exact Ad1 _ _ _ _
 ·refine b.s.h c ?_;simp[cL,uL]at a ⊢;simp[g,false_or]at a;exact a
theorem At.f8{x:List Nat}{wr:Q}(c:At {e with E:=wa++pA 68 2 m w8.length (w8.flatMap FG)::nc} x n r wr){j:Nat}(N:j<r.code.length):∃h cc a,wr.cell? ⟨e.K,2,none⟩=some (W (some ⟨h,0,none⟩) r.code.length cc)/\wr.frozen? ⟨h,j*3+2,none⟩=false/\wr.cell? ⟨h,j*3+2,none⟩=some a/\At {e with E:=wa++nc} x n {r with code:=r.code.set j {r.code[j]with alts:=w8}} (wr.setCell ⟨h,j*3+2,none⟩ m):=by
 obtain⟨ad,⟨d,ab,ae,aa,Y,ac,f⟩,B⟩:=c.cm;obtain⟨h,cc,rfl,L,M,O,H,i⟩:=f.row N;refine⟨h,cc,_,L,M _,i 2 _ rfl,?_⟩;obtain⟨b,v,w⟩:∃b:Bp×X,b.1={d[j].1 with alts:=w8}/\b.2=m:=⟨⟨_,_⟩,rfl,rfl⟩;have o:=f.s.dv.set (L1:=[_]) (j:=j*3+2) (u:=m) (A':=cA (W (some ⟨h,0,none⟩) d.length cc) (d.set j b)) rfl rfl (by
  have:=MJ (t:=j*3+2) (u:=m) (f.s.mem (A:=cA (W (some ⟨h,0,none⟩) d.length cc) d) (by simp));rw[I3 m b 2 (by omega) O (by simp[ER,v,w])]at this;show World.ownsRow _ _ _ _ _ _ _;rw[List.length_set];exact this)
 have G:∀g,((d.set j b).flatMap λa=>vB a.2).count g<=(vB m).count g+(d.flatMap λa=>vB a.2).count g:=λg=>by
  have:∀(l:Es) (j:Nat) (b:Bp×X),((l.set j b).flatMap λa=>vB a.2).count g<=(vB b.2).count g+(l.flatMap λa=>vB a.2).count g:=λl=>by
   induction l with
   |nil=>intro j b;simp
   |cons a l ih=>intro j b;cases j with
    |zero=>simp only[Ad4,Adh,Aa2];omega
    |succ j=>have:=ih j b;simp only[Adz,Adh,Aa2];omega
  rw[<-w];exact this d j b
 have k:=o.OT (L':=cL {e with E:=wa++nc} {r with code:=r.code.set j {r.code[j]with alts:=w8}} (d.set j b) ab (W (some ⟨h,0,none⟩) d.length cc) aa Y ac) (λg=>by have:=G g;simp only[fp,cL,uL,Adh,Ado,Aa2,Abr,Ae2,Aec];omega) λA p=>by
  by_cases y:A=aA (d.set j b)
  ·subst y;intro a i;rcases List.mem_or_eq_of_mem_set i with I|rfl
   ·exact(o.mem (A:=aA d) (by simp)) a I
   ·rw[v,w];exact(o.mem (A:=pA 68 2 m w8.length (w8.flatMap FG)) (by simp))
  ·refine o.s.h A ?_;simp only[cL,uL,Ady,Acz,Ae2,Aec]at p ⊢;simp only[y,false_or]at p;rcases p with c|c|c|c|c|c|c|c<;>simp[c]
 have U:=c.af.trans k.af (by have:=f.b;subst this;exact B);have q:=f.b;subst q;exact⟨U,c.low.trans (k.af.low (λD q=>(f.rg D q).1) f.s.z),_,⟨_,_,_,_,_,_,k.s,rfl,by rw[Rv,f.hc,v,H],f.ht,λa i=>⟨(f.g a i).1,(f.g a i).2.step k.af k.nb⟩,by have:=f.z;unfold X7 at*;simp;omega⟩,B.trans k.nb c.af.size⟩
end Go.Proofs.YtnghccjoicmabaaGreatDoor
