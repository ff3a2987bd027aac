import Derived.Test.YtcacpmkdfnmhaaaGreatDoorRefEncJ
import Derived.Test.YtcacpmkdfnmhaaaGreatDoorZjJ
set_option linter.unusedSimpArgs false
set_option maxRecDepth 100000
set_option maxHeartbeats 8000000
open Except renaming error->P
open Go renaming Calls->Av,Value->X,World->Q,undef->Aq1
open Go.ByteArray renaming toList_eq->Aq0
open Go.Ending renaming returned->F
open Go.IntKind renaming i64->C
open Go.Obj renaming cells->AO
open Go.Proofs.Tryz renaming prog->Aa
open Go.Value renaming agg->T,bool->A,iface->Z,int->V,pointer->J,slice->W,string->S,tuple->R
open Go.World renaming news_of_block->A1
open List renaming length->L
open Option renaming none->N,some->I
open Or renaming inl->Ba,inr->Aq5
namespace Go.Proofs.YtcacpmkdfnmhaaaGreatDoor
open Go.RowKit Go.Sort
variable{v nl:ByteArray}{h:List ByteArray}{nn:ByteArray×Nat}{w s m j D:Nat}{xg:Unit}{vo:ByteArray×List IT×List DD}{wk:Ex}{n p H ni:World}{f:Nat->Addr}{b i r M:Value}{w3:Bool}{G:Option Addr}{ns g:Bm}{n2:E7}{wc:List IT}{wd:List DT}{xx:DD}{s9:Nat×Nat}{vg:Obj}{vx:List DD}{nw:Nat->Pr Ex}
theorem Acy:CK v h 0=false->v∉h:=λa b=>by
 have:CK v h 0=true:=by unfold CK;grind
 grind
theorem Cr.new(e:Cr v w m)(d:w<=v.size)(a:C9 v h w=.ok (nn,s)):Cr v s 1/\s<=v.size/\w+m+ww nn.1<=s+1/\CE nn.1=true/\nn.1∉h:=by
 let ⟨j,i,c,a⟩:=Bk a
 have b:=e.name d c;have g:=Ha w d j i c;split at a
 ·cases a
 ·rename_i f
  cases a;exact⟨b.1,g.2,b.2.1,b.2.2,Acy (by simpa using f)⟩
theorem WP(a:BS v nl w=.ok (xg,s)):Bp v w=nl/\s=BG v w:=by
 unfold BS at a;grind
structure WM (e:ByteArray) (a:Bm) (c:List IT) (b:List DD):Prop where
 gn:a.map (·.1)=c.map (·.1.1)++b.map (·.1.1)
 nd:(a.map (·.1)).Nodup
 i:∀x∈c,CE x.1.1=true/\x.2<=20
 d:∀x∈b,CE x.1.1=true/\XF 31 x.2.2
def dW(b:List DD):Nat:=(b.map λa=>6+nW a.2.1+wt 31 a.2.2).sum
theorem Aa2(b:List DD)(a:DD):dW (b++[a])=dW b+(6+nW a.2.1+wt 31 a.2.2):=by simp[dW]
theorem R7{a:ByteArray}(y:Nat):∀(s:Nat) (r:Bm) (x:List IT) (m:List DD) (h:Nat) (k:List IT×List DD) (z:Nat),h<=a.size->WM a r x m->y+L x*11+dW m<=h->Fk a s r x m h=.ok (k,z)->(∃ae,WM a ae k.1 k.2)/\y+L k.1*11+dW k.2<=a.size
 |0,_,_,_,_,_,_,_,_,_,b=>by rw[Fk]at b;cases b
 |s+1,r,x,m,h,k,z,hp,hw,hl,b=>by
  rw[Fk]at b;split at b
  ·rename_i aj
   have t:=GY hp (by rw[aj];decide);obtain⟨ax,ar,f,b⟩:=Bk b;unfold pG at f;split at f
   ·rename_i n
    have G:=(Cr.z a (BG a h)).word t.2 (by rw[n.1];decide) (by rw[n.1];decide) (by rw[n.1];decide);have ak:(Bp a (BG a h)).size=6:=by rw[n.1];rfl
    have E:=Dq t.2;have ai:=As4.1 (by simpa using n.2);subst ai;obtain⟨ab,Y,g,f⟩:=Bk f;obtain⟨K,aa,e,g⟩:=Bk g;have j:=G.1.new E e;obtain⟨M,o,u,g⟩:=Bk g;have U:=Hg aa j.2.1 M o u;have H:=j.1.tag j.2.1 u;obtain⟨q,p,v,g⟩:=Bk g;have al:=B2 O4 o U.2 q p v;have au:=H.1.want O4 U.2 v;cases g;cases f;have D:2<=ww K.1:=As5 _ _;refine R7 y s _ _ _ _ k z al.2 ⟨?_,?_,λl c=>?_,hw.d⟩ ?_ b
    ·rw[AJ,hw.gn];simp
    ·rw[AJ,A8];exact⟨hw.nd,O2,λl c af hb B=>by grind⟩
    ·rcases Ag.1 c with c|c
     ·exact hw.i l c
     grind
    grind
   ·obtain⟨aw,Y,g,f⟩:=Bk f;obtain⟨w,rfl⟩:=WP g;have G:=(Cr.z a (BG a h)).word t.2 (by rw[w];decide) (by rw[w];decide) (by rw[w];decide);have ak:(Bp a (BG a h)).size=3:=by rw[w];rfl
    have E:=Dq t.2;obtain⟨ab,Y,e,f⟩:=Bk f;obtain⟨K,aa,u,e⟩:=Bk e;have j:=G.1.new E u;obtain⟨M,o,v,e⟩:=Bk e;have H:=j.1.names j.2.1 v;obtain⟨q,p,ah,e⟩:=Bk e;obtain⟨ap,ac,ag,aq,ad⟩:=TP a 30 o q p 0 H.1 (Cr.z _ _) ah;replace ad:o+0+wt 31 q<=p+ag:=ad
    obtain⟨ao,an,O,e⟩:=Bk e;have am:=B2 O4 p ac ao an O;have av:=aq.want O4 ac O;cases e;cases f;have D:2<=ww K.1:=As5 _ _;refine R7 y s _ _ _ _ k z am.2 ⟨?_,?_,hw.i,λl c=>?_⟩ ?_ b
    ·rw[AJ,hw.gn];simp
    ·rw[AJ,A8];exact⟨hw.nd,O2,λl c af hb B=>by have D:=B.trans (by simpa using hb);exact j.2.2.2.2 (D▸c)⟩
    ·rcases Ag.1 c with c|c
     ·exact hw.d l c
     ·obtain rfl:=Aq.1 c;exact⟨j.2.2.2.1,ap⟩
    ·rw[Aa2];show _+(dW m+(6+nW M+wt 31 q))<=_;omega
  ·cases hh:Fz a [BJ,⟨#[]⟩] h with
   |error B=>rw[hh]at b;cases b
   |ok ab=>rw[hh]at b;cases b;exact⟨⟨r,hw⟩,Aw hl hp⟩
theorem SR(a:Eh v 0=.ok (vo,w)):CE vo.1=true/\(∃f,WM v f vo.2.1 vo.2.2)/\9+L vo.2.1*11+dW vo.2.2<=v.size:=by
 let ⟨x,t,b,a⟩:=Bk a
 let ⟨m,d,g,b⟩:=Bk b
 have e:=B2 O4 0 (Ak _) m d g;let ⟨y,u,h,b⟩:=Bk b
 obtain⟨c,rfl⟩:=WP h;have n:=(Cr.z v d).word e.2 (by rw[c];decide) (by rw[c];decide) (by rw[c];decide);have s:(Bp v d).size=6:=by rw[c];rfl
 cases b;let ⟨p,k,i,a⟩:=Bk a
 have o:=n.1.new (Dq e.2) i;have r:2<=ww p.1:=As5 _ _;let ⟨q,l,j,a⟩:=Bk a
 have:=R7 9 _ [] [] [] k q l o.2.1 ⟨rfl,O2,(λ_ a=>by cases a),(λ_ a=>by cases a)⟩ (by simp[dW];omega) j;grind
theorem Adu(a:DS (w+1) wk):(BZ wk).length<=10000:=by
 obtain⟨⟨b,c,-⟩,-⟩:=a;cases wk<;>simp[BZ,Bv,Cf]at b c ⊢<;>omega
theorem Aas{Gn:Bm}{a:ByteArray}(y:GF n p w f b Gn n2)(an:CH p w (W G j D) ns)(au:(L ns)<=100000)(aq:(L Gn)<=100000):
 Av Aa 112 #[J (I ⟨w,0,N⟩),Z 117 (T #[.string a,V C (m:Int)]),W G j D] p λg z=>NH w b f p (DG n2 (gE (G9 Gn) (s+1) (ns.map (·.1)) (.name w3 a m))) g z:=by
 obtain⟨U,O,rfl,-⟩:=y.g.cap;have aw:=Ajw;have av:=U4;have a4:=y.ls.lt;have t:Below p.heap.size p (p.alloc (AO #[.string a,V C (m:Int)] 117)).drew:=F6 bA;have r:=O0 (y.bE t);have al:(p.alloc (AO #[.string a,V C (m:Int)] 117)).drew.cell? ⟨p.heap.size,0,N⟩=I (.string a):=O2;have ar:(p.alloc (AO #[.string a,V C (m:Int)] 117)).drew.cell? ⟨p.heap.size,1,N⟩=I (V C (m:Int)):=O2;have ak:=r.o.ls.c0;have ap:=O0 (MW ns _ a _ au (an.bE t).nm);have ao:=O0 (λah (hb:Below (p.alloc (AO #[.string a,V C (m:Int)] 117)).drew.heap.size (p.alloc (AO #[.string a,V C (m:Int)] 117)).drew ah)=>MW Gn _ a ah aq (r.o.bE hb).g.nm);have l:=O0 t;have am:gE (G9 Gn) (s+1) (ns.map (·.1)) (.name w3 a m)=if CK a (ns.map (·.1)) 0=true then [] else if CK a (Gn.map (·.1)) 0=true then [] else [(4,m)]:=by
  rw[gE];simp only[fN,BZ,Arj,A2,G9];rfl
 rw[am];obtain⟨ad,ab⟩:∃a2,DG n2 (if CK a (ns.map (·.1)) 0=true then [] else if CK a (Gn.map (·.1)) 0=true then [] else [(4,m)])=a2:=⟨_,rfl⟩;rw[ab];have H:=O0 ab;clear y an am t ab;go_enter Tryz.func112,Tryz.ntmps112;go_upto_region 1 with(fail)
 refine wp_region_held_drew (S:=(λz=>z.cell? ⟨p.heap.size,0,N⟩=I (.string a)/\z.cell? ⟨w,0,N⟩=I (W U (L Gn) O))) (by rfl) ⟨al,ak⟩ (λY=>?_);iterate 5
  refine KN (v:=?_) [0,1,2,3,4] rfl rfl rfl O3 O3 O3 (λ_ _ _ c=>c) (Ba ⟨by rfl,?_⟩) O7 ?_;rotate_left
  ·intro p d;obtain⟨u,x⟩:=d;(go_simp<;>with_reducible rfl)
  simp only[Act.put,Ard,Arp,Arl]
 refine wpAnyH_ready (rs:=[5]) O3 O2 ?_;refine AllReadyH.cons rfl (λM h=>?_) AllReadyH.nil;go_simp;go_wp2_with (first
  |(go_at_call 108;refine ap.o.mono ?_;rintro g a0 ⟨rfl,i⟩;have k0:=Bn i al;have ay:=Bn i ak;have az:=Bn i ar;have e:=O0 i;clear i))
 refine h.out _ _ ?_ (λY=>?_)
 ·grind
 clear h M;cases h1:CK a (ns.map (·.1)) 0;case' true=>
  iterate 3
   refine KN (v:=?_) [6,7,8] rfl rfl rfl O3 O3 O3 (λ_ _ _ c=>c) (Ba ⟨by rfl,?_⟩) O7 ?_;rotate_left
   ·intro p d;obtain⟨u,x⟩:=d;(go_simp<;>with_reducible rfl)
   simp only[Act.put,Ard,Arp,Arl]
  iterate 8
   refine KN (v:=Aq1) [9,10,11,12,13,14,15,16] rfl rfl rfl O3 O3 O3 (λ_ _ _ c=>c) (Aq5 ⟨by rfl,rfl⟩) O7 ?_;simp only[Act.put,Ard,Arp,Arl]
  iterate 1
   refine KN (v:=?_) [17] rfl rfl rfl O3 (by rfl) O3 (λ_ _ _ c=>c) (Ba ⟨by rfl,?_⟩) Y ?_;rotate_left
   ·intro p d;obtain⟨u,x⟩:=d;(go_simp<;>with_reducible rfl)
   simp only[Act.put,Ard,Arp,Arl]
  have q:=O0 (EF.bG (E:=w) (l.o.trans (e.o.mono l.o.size)));have B:O9 (LS a0 w (W U (L Gn) O) f ad):=by
   rw[<-H.o,if_pos h1];exact(r.o.bE e.o).ls
  clear h1
 case' false=>
  iterate 9
   refine KN (v:=?_) [6,7,8,9,10,11,12,13,14] rfl rfl rfl O3 O3 O3 (λ_ _ _ c=>c) (Ba ⟨by rfl,?_⟩) O7 ?_;rotate_left
   ·intro p d;obtain⟨u,x⟩:=d;(go_simp<;>with_reducible rfl)
   simp only[Act.put,Ard,Arp,Arl]
  refine wpAnyH_ready (rs:=[15]) O3 O2 ?_;refine AllReadyH.cons rfl (λM h=>?_) AllReadyH.nil;go_simp;go_wp2_with (first
   |(go_at_call 108;refine(ao.o _ e.o).mono ?_;rintro g a1 ⟨rfl,k⟩;have a5:=Bn k k0;have a6:=Bn k ay;have a7:=Bn k az;have ae:=O0 (e.o.trans (k.mono e.o.size));clear k))
  refine h.out _ _ ?_ (λY=>?_)
  ·grind
  clear h M;have q:=O0 (EF.bG (E:=w) (l.o.trans (ae.o.mono l.o.size)));have K:=O0 (r.o.bE ae.o);cases h2:CK a (Gn.map (·.1)) 0;all_goals
   iterate 2
    refine KN (v:=?_) [16,17] rfl rfl rfl O3 O3 O3 (λ_ _ _ c=>c) (Ba ⟨by rfl,?_⟩) O7 ?_;rotate_left
    ·intro p d;obtain⟨u,x⟩:=d;(go_simp<;>with_reducible rfl)
    simp only[Act.put,Ard,Arp,Arl]
  all_goals
   first
   |have B:O9 (LS a1 w (W U (L Gn) O) f ad):=(by rw[<-H.o,if_neg (by simp[h1]),if_pos h2];exact K.o.ls)
    clear h1 h2
   |have af:=O0 (V1 5 m K.o.ls)
    have a3:=K.o.pb.sy.nm;rw[show J3 n2 5 m=ad by rw[<-H.o,if_neg (by simp[h1]),if_neg (by simp[h2])];rfl]at af;clear h1 h2
 all_goals
  refine wpAnyH_done O3 ?_ _;go_wp2_with (first
   |(go_at_call 111;refine af.o.mono ?_;rintro g aB ⟨rfl,ai,aj⟩;replace q:=O0 (q.o.trans ai);have B:=O0 aj;clear ai aj)
   |(go_at_call 319;refine(Vf a (m:Int) _).mono ?_;intro g w5 aa;have ag:=O0 aa;obtain⟨a9,a8,rfl⟩:=aa.slice;clear aa))
  clear aw av;go_loopw [41] (λax wr=>ax=V C 0/\wr=w5) (λ_ _=>0)
  case atStart=>exact⟨rfl,rfl⟩
  case round=>
   obtain⟨rfl,ac⟩:=hrel;replace ac:=ac.symm
   subst ac;go_wp2;refine bE ?_;exact⟨rfl,q.o.trans (EF.bG ag.o.1),B.o.below ag.o.1⟩
theorem Abo{Gn:Bm}(h:(L Gn)<=100000)(j:NJ n w f b Gn s):SK n w f b Gn (s+1):=by
 intro K H u t B y E d e c l p g a m;obtain⟨z,x,rfl,-⟩:=a.cap;rcases Wj e c p g with⟨v,G,D,rfl,rfl⟩|⟨o,r,M,q,rfl,i,k⟩
 ·exact Aas d a O1 h
 ·exact Ap2 j d e c l o i k a m (Adu g)
theorem Adl{Gn:Bm}:SK n w f b Gn 0:=λ_ _ _ _ _ _ _ _ a=>a.elim
theorem Wu{c:Q}{d:Nat}{e:Nat->Addr}{f:X}{Gn:Bm}(b:(L Gn)<=100000):∀a,NJ c d e f Gn a
 |0=>Xa Adl
 |a+1=>Xa (Abo b (Wu b a))
theorem Li(a:Below w n p)(hb:w<=s)(d:X):Below w n (p.setCell ⟨s,m,N⟩ d):=
 ⟨a.os,a.tape,a.output,by simpa using a.size,λb c=>by rw[Az _ _ _ _ (show b≠s by omega)];exact a.block b c⟩
structure Hr (a:Q) (c:Nat->Addr) (f e d:X) (wr:Q) (b:X) (Gn:Bm):Prop where
 ls:LS wr (a.heap.size+1) b c N
 g:C4 wr (a.heap.size+2) b Gn
 m:V3 wr a.heap.size f e d
 low:Below a.heap.size a wr
theorem LS.fQ{e:Nat->Addr}(c:LS n w b e n2)(d:X):LS (n.setCell ⟨w,0,N⟩ d) w d e n2:=by
 have g:∀a,a≠0->(n.setCell ⟨w,0,N⟩ d).cell? ⟨w,a,N⟩=n.cell? ⟨w,a,N⟩:=λa h=>Af _ _ _ _ (B4 (Asg h));exact⟨Am _ _ _ c.c0,by rw[g _ O1];exact c.c1,by rw[g _ O1];exact c.c2,λa=>by rw[An];exact c.f a⟩
theorem Hr.next{wr X w2:Q}{Gn:Bm}(d:Hr n f b i r wr M Gn)(h:Below wr.heap.size wr X){ob:Obj}(j:(X.alloc ob).grownBy w2 M.ownBlock){g c:Nat}(t:M.ownBlock=I g\/g=(X.alloc ob).heap.size)(v:g<w2.heap.size){x:ByteArray×Nat}(w:w2.ownsRow 0 117 2 (W (I ⟨g,0,N⟩) (L Gn+1) c) (L Gn+1) (Gn.flatMap wC++[S x.1,V C (x.2:Int)])):Hr n f b i r (w2.setCell ⟨n.heap.size+1,0,N⟩ (W (I ⟨g,0,N⟩) (L Gn+1) c)) (W (I ⟨g,0,N⟩) (L Gn+1) c) (Gn++[x]):=by
 have s:=d.ls.lt;have D:=h.size;have B:=j.size;have E:(X.alloc ob).heap.size=X.heap.size+1:=O2;have y:=λa e=>(d.g.rg a (Ad _ (BM.2 e))).1;have l:∀a,a<wr.heap.size->M.ownBlock≠I a->w2.heap[a]?=wr.heap[a]?:=λa p q=>by
  rw[j.block a O1 (λe=>q e.symm),Ara _ _ O1];exact h.block a p
 have o:=(d.g.bE D1 h).cZ D1 O1 trivial j t v w;refine⟨(d.ls.bX (l _ s (λe=>by grind))).fQ _,?_,(d.m.bX (l _ O1 (λe=>by grind))).bX (Az _ _ _ _ (show n.heap.size≠n.heap.size+1 by omega)),?_⟩
 ·refine BU.fr D1 o O2 λa hb=>Az _ _ _ _ ?_;have:=(o.rg a hb).1;grind
 ·refine Li ?_ O1 _;exact⟨j.os.trans (h.os.trans d.low.os),j.tape.trans (h.tape.trans d.low.tape),j.output.trans (h.output.trans d.low.output),O1,λk u=>by
   have z:=d.low.size;rw[l k O1 (λe=>by grind)];exact d.low.block k u⟩
theorem Hr.kept{wr:Q}{Gn:Bm}(a:Hr n f b i r wr M Gn)(c:Below wr.heap.size wr H){d:Obj}(j:(H.alloc d).grownBy ni M.ownBlock):LS ni (n.heap.size+1) M f none:=by
 have h:=a.ls.lt;have k:=c.size;have l:(H.alloc d).heap.size=H.heap.size+1:=O2;refine a.ls.bX ?_;rw[j.block _ O1 (λe=>by have:=(a.g.rg _ (Ad _ (BM.2 e.symm))).1;omega),Ara _ _ O1];exact c.block _ h
def ZL(b:Nat->Addr):E7->X
 |none=>.nilIface
 |some (k,a)=>EU b k a
def dF(Gn:Bm)(a:(ByteArray×Nat)×Bm×Ex):List (Nat×Nat):=fK 0 a.2.1++gE (G9 Gn) 31 (a.2.1.map (·.1)) a.2.2
def Jq(b:List IT)(a:List DD):Bm:=b.map (·.1)++a.map (·.1)
theorem Aed(f:H2 n w (W G s m) wc){a:Nat}(g:a<L wc):∃b,G=I ⟨b,0,N⟩/\n.cell? ⟨b,a*3,N⟩=I (.string wc[a].1.1)/\n.cell? ⟨b,a*3+1,N⟩=I (V C (wc[a].1.2:Int))/\n.cell? ⟨b,a*3+2,N⟩=I (V C (wc[a].2:Int)):=by
 obtain⟨b,i,h,-,-⟩:=f.own.form O1;have e:=f.own;cases h;have d:=Nf (λc:IT=>(S c.1.1)) (λc=>V C c.1.2) (λc=>V C c.2) wc a g;refine⟨b,rfl,?_,?_,?_⟩
 ·rw[e.cellAt (a*3) O1];exact d.1
 ·rw[e.cellAt (a*3+1) O1];exact d.2.1
 ·rw[e.cellAt (a*3+2) O1];exact d.2.2
theorem YR(f:Ho n w (W G s m) wd){a:Nat}(g:a<L wd):∃b,G=I ⟨b,0,N⟩/\n.cell? ⟨b,a*4,N⟩=I (.string wd[a].1.1)/\n.cell? ⟨b,a*4+1,N⟩=I (V C (wd[a].1.2:Int))/\n.cell? ⟨b,a*4+2,N⟩=I wd[a].2.1/\n.cell? ⟨b,a*4+3,N⟩=I wd[a].2.2.2.1:=by
 obtain⟨b,i,h,-,-⟩:=f.own.form O1;have e:=f.own;cases h;have d:=SV (λc:DT=>(S c.1.1)) (λc=>V C c.1.2) (λc=>c.2.1) (λc=>c.2.2.2.1) wd a g;refine⟨b,rfl,?_,?_,?_,?_⟩
 ·rw[e.cellAt (a*4) O1];exact d.1
 ·rw[e.cellAt (a*4+1) O1];exact d.2.1
 ·rw[e.cellAt (a*4+2) O1];exact d.2.2.1
 ·rw[e.cellAt (a*4+3) O1];exact d.2.2.2
theorem YC(f:Ho n w b wd){a:Nat}(g:a<L wd):∃j i h d e,wd[a].2.1=W j i h/\wd[a].2.2.2.1=Z d e:=by
 have c:=f.it _ (Ao g);let ⟨o,k,l⟩:=c.1.slice
 let ⟨p,q,m⟩:=PX.cB c.2
 grind
structure NI (a:Q) (b:Nat->Addr) (f e c:X) (wr:Q) (d:X) (Gn:Bm) (g:E7):Prop where
 lk:GF a wr (a.heap.size+1) b d Gn g
 m:V3 wr a.heap.size f e c
theorem Hr.df{wr:Q}{Gn:Bm}(a:Hr n f b i r wr M Gn)(d:SY n f):NI n f b i r wr M Gn none:=
 ⟨⟨⟨d,a.low,O1⟩,a.ls,CH.ca a.g λc=>by have:=(a.g.rg _ (Ad _ (BM.2 c))).1;omega⟩,a.m⟩
theorem NI.step{wr:Q}{Gn:Bm}(a:NI n f b i r wr M Gn n2)(x:(L Gn)<=100000)(j:Ho n w r wd)(o:s<L wd)(t:C1 31 wd[s].2.2.2.2.1/\DS 31 wd[s].2.2.2.2.1/\wd[s].2.2.1.length<=2000)(g:Obj):
 Av Aa 60 #[J (I ⟨n.heap.size+1,0,N⟩),T #[wd[s].2.2.2.1,wd[s].2.1],W N 0 0] (wr.alloc g) λh u=>h=F (R #[])/\NI n f b i r u M Gn (DG n2 (dF Gn (wd[s].1,wd[s].2.2.1,wd[s].2.2.2.2.1))):=by
 have hb:Below wr.heap.size wr (wr.alloc g):=bA;have p:=a.lk.pb.b;have l:=p.trans (hb.mono p.size);have q:=(j.bE F9 l).it _ (Ao o);have e:=λc z=>(j.rg c (Ah _ (AP.2 ⟨_,Ao o,z⟩))).2;have B:=l.size;refine(Wu x 31 (wr.alloc g) wd[s].2.2.2.1 wd[s].2.2.2.2.1 wd[s].2.2.2.2.2 wd[s].2.1 wd[s].2.2.1 (W N 0 0) [] n2 (a.lk.bE hb) q.2 (λd=>by have:=e _ (Ah _ d);omega) (λc d=>by have:=e c (Ah _ d);omega) t.1 t.2.1 (CH.ca q.1 λv=>by have:=e _ (Ad _ (BM.2 v));omega) (CH.nil _ _) O6).mono ?_;rintro h u ⟨rfl,k,y⟩;exact⟨rfl,(a.lk.bE hb).ef k y,(a.m.bE hb).ef k O1⟩
theorem Apl{bc:X}(aT:SY n f)(a2:H2 n w bc wc)(a0:Ho n w i wd)(b6:(L wc)<=2000)(b5:(L wd)<=2000)(ba:∀x∈wd,C1 31 x.2.2.2.2.1/\DS 31 x.2.2.2.2.1/\L x.2.2.1<=2000):
 Av Aa 30 #[T #[S v,bc,i]] n λaQ bz=>aQ=F (ZL f (DG N ((wd.map CY).flatMap (dF (Jq wc (wd.map CY))))))/\Below n.heap.size n bz:=by
 obtain⟨D,t,rfl⟩:=a2.slice;obtain⟨B,q,rfl⟩:=a0.slice;have bj:=O0 a2;have ac:=O0 a0;have bm:=O0 aT;have bo:=O0 ba;clear a2 a0 aT ba;obtain⟨bb,a7,aW⟩:=AB.1 Tryz.c9;simp only[Aq2]at aW;obtain⟨a4,a5,a6⟩:=aW;obtain⟨ax,bs⟩:∃ax,ax=W D (L wc) t:=⟨_,rfl⟩;obtain⟨aw,br⟩:∃aw,aw=W B (L wd) q:=⟨_,rfl⟩;have bl:O9 (Hr n f (S v) (W D (L wc) t) (W B (L wd) q) ((n.alloc (.cells #[S v,W D (L wc) t,W B (L wd) q] 61)).alloc (.cells #[W N 0 0,.nilIface,V C 0] 170)) (W N 0 0) []):=by
  refine⟨⟨?_,?_,?_,λbu=>?_⟩,BU.nil _ _,⟨?_,?_,?_,λbu=>?_⟩,bA.alloc O2 _⟩<;>simp[Ml,LN]
 clear bs br ax aw;go_enter Tryz.func30,Tryz.ntmps30;go_wp2;go_loopw [13] (λp wr=>∃(a:Nat) (g:Option Addr) (e:Nat),a<=L wc/\p=V C (a:Int)/\O9 (Hr n f (S v) (W D (L wc) t) (W B (L wd) q) wr (W g a e) ((wc.take a).map (·.1)))) (λp _=>L wc-(intOf p).toNat)
 case atStart=>grind
 case round=>
  clear bl;obtain⟨a,g,e,aX,rfl,d⟩:=hrel;rename Q=>wr
  by_cases k:a<L wc
  ·have aR:(0:Int)<=(a:Int):=O1;have aS:(a:Int)<(L wc:Int):=O1;obtain⟨av,rfl,Y,aa,ab⟩:=Aed (bj.o.bE IV d.o.low) k;obtain⟨ap,H,K,lf⟩:=d.o.ls;have E:((wc.take a).map (·.1)).length=a:=by simp;omega
   have ar:O9 (wr.ownsRow 0 117 2 (W g a e) a (((wc.take a).map (·.1)).flatMap wC)):=by
    have:=d.o.g.own;rw[E]at this;exact this
   have z:O9 (∀(h:Q) (y M:Obj) (j l:Nat),((wr.alloc y).alloc M).grownBy h (W g a e).ownBlock->((W g a e).ownBlock=I j\/j=((wr.alloc y).alloc M).heap.size)->j<h.heap.size->h.ownsRow 0 117 2 (W (I ⟨j,0,N⟩) (a+1) l) (a+1) (((wc.take a).map (·.1)).flatMap wC++[.string wc[a].1.1,V C (wc[a].1.2:Int)])->LS h (n.heap.size+1) (W g a e) f N/\Hr n f (S v) (W (I ⟨av,0,N⟩) (L wc) t) (W B (L wd) q) (h.setCell ⟨n.heap.size+1,0,N⟩ (W (I ⟨j,0,N⟩) (a+1) l)) (W (I ⟨j,0,N⟩) (a+1) l) ((wc.take (a+1)).map (·.1))):=by
    intro h y M j l aj r a8 G;have ai:Below wr.heap.size wr (wr.alloc y):=bA;refine⟨d.o.kept ai aj,?_⟩;have:=d.o.next ai aj r a8 (x:=wc[a].1) (c:=l) O6;rw[E]at this;rw[Au k,AJ];exact this
   obtain⟨aI,an⟩:∃aI,wc[a]=aI:=⟨_,rfl⟩;obtain⟨⟨u,ia⟩,bt⟩:=aI;rw[an]at Y aa ab z;simp only at Y aa ab z;have be:=λaH=>alloc_old wr aH _ _ _ ap;clear an E H K lf;generalize ((wc.take a).map (·.1)).flatMap wC=XS at*;go_wp2_with (first
    |(at_builtin;refine wpList_append_lies _ rfl (.tmp 18) (.tmp 21) 102 rfl 0 117 bb _ 2 24 Tryz.underlying102 a7 a4 a5 a6 rfl O1 (W g a e) a XS rfl ((ar.o.alloc _).alloc _) ⟨wr.heap.size+1,0,N⟩ 1 1 [S u,V C (ia:Int)] rfl rfl (by simpa using A1 (AL (wr.alloc (AO #[S u,V C (ia:Int),V C (bt:Int)] 172)) (AO #[S u,V C (ia:Int)] 117))) (by intro bx am;simp at am;rcases am with rfl|rfl<;>rfl) O1 O8 O1 (Ak _) _ rfl ?_;intro az aC h G ak r al;have s:=z.o h _ _ az aC ak r al G;obtain⟨⟨bv,a9,aB,ao⟩,s⟩:=s;have U:=O0 s;have bw:=ao 0;clear G ak r al s ao a9 aB))
   exact⟨⟨a+1,_,_,O1,by go_num,U.o⟩,by simp[intOf];omega⟩
  ·obtain rfl:a=L wc:=O1;have aV:¬(L wc:Int)<(L wc:Int):=O1;obtain⟨aD,aE,aF,aG⟩:=d.o.m;clear aG;have aM:O9 (Hr n f (S v) (W D (L wc) t) (W B (L wd) q) wr (W g (L wc+0) e) (wc.map (·.1)++(wd.take 0).map (·.1))):=by
    grind
   clear d;go_wp2;clear aD aE aF;go_loopw [28] (λp wr=>∃(a:Nat) (g:Option Addr) (e:Nat),a<=L wd/\p=V C (a:Int)/\O9 (Hr n f (S v) (W D (L wc) t) (W B (L wd) q) wr (W g (L wc+a) e) (wc.map (·.1)++(wd.take a).map (·.1)))) (λp _=>L wd-(intOf p).toNat)
   case atStart=>exact⟨0,g,e,Ak _,rfl,aM.o⟩
   case round=>
    clear aM;obtain⟨a,g,e,aX,rfl,d⟩:=hrel;rename Q=>wr
    by_cases k:a<L wd
    ·have aR:(0:Int)<=(a:Int):=O1;have aS:(a:Int)<(L wd:Int):=O1;obtain⟨av,rfl,Y,aa,ab,ay⟩:=YR (ac.o.bE F9 d.o.low) k;obtain⟨bh,bg,bf,aO,aP,af,ag⟩:=YC ac.o k;rw[af]at ab;rw[ag]at ay;obtain⟨ap,H,K,lf⟩:=d.o.ls;have E:(wc.map (·.1)++(wd.take a).map (·.1)).length=L wc+a:=by simp;omega
     have ar:O9 (wr.ownsRow 0 117 2 (W g (L wc+a) e) (L wc+a) ((wc.map (·.1)++(wd.take a).map (·.1)).flatMap wC)):=by
      have:=d.o.g.own;rw[E]at this;exact this
     have z:O9 (∀(h:Q) (y M:Obj) (j l:Nat),((wr.alloc y).alloc M).grownBy h (W g (L wc+a) e).ownBlock->((W g (L wc+a) e).ownBlock=I j\/j=((wr.alloc y).alloc M).heap.size)->j<h.heap.size->h.ownsRow 0 117 2 (W (I ⟨j,0,N⟩) (L wc+a+1) l) (L wc+a+1) ((wc.map (·.1)++(wd.take a).map (·.1)).flatMap wC++[.string wd[a].1.1,V C (wd[a].1.2:Int)])->LS h (n.heap.size+1) (W g (L wc+a) e) f N/\Hr n f (S v) (W D (L wc) t) (W (I ⟨av,0,N⟩) (L wd) q) (h.setCell ⟨n.heap.size+1,0,N⟩ (W (I ⟨j,0,N⟩) (L wc+a+1) l)) (W (I ⟨j,0,N⟩) (L wc+a+1) l) (wc.map (·.1)++(wd.take (a+1)).map (·.1))):=by
      intro h y M j l aj r a8 G;have ai:Below wr.heap.size wr (wr.alloc y):=bA;refine⟨d.o.kept ai aj,?_⟩;have:=d.o.next ai aj r a8 (x:=wd[a].1) (c:=l) O6;rw[E]at this;rw[Au k,AJ,<-AH];exact this
     obtain⟨u,ia,an⟩:∃u ia,wd[a].1=(u,ia):=⟨_,_,rfl⟩;rw[an]at Y aa z;simp only at Y aa z;have be:=λaH=>alloc_old wr aH _ _ _ ap;clear an E H K lf af ag;generalize (wc.map (·.1)++(wd.take a).map (·.1)).flatMap wC=XS at*;obtain⟨ae,ah⟩:∃ae,ae=L wc+a:=⟨_,rfl⟩;rw[<-ah]at ap be ar z;have b2:ae<=4000:=O1;have bk:=O0 ah;clear ah;go_wp2_with (first
      |(at_builtin;refine wpList_append_lies _ rfl (.tmp 33) (.tmp 36) 102 rfl 0 117 bb _ 2 24 Tryz.underlying102 a7 a4 a5 a6 rfl O1 (W g ae e) ae XS rfl ((ar.o.alloc _).alloc _) ⟨wr.heap.size+1,0,N⟩ 1 1 [S u,V C (ia:Int)] rfl rfl (by simpa using A1 (AL (wr.alloc (AO #[S u,V C (ia:Int),W bh bg bf,Z aO aP] 121)) (AO #[S u,V C (ia:Int)] 117))) (by intro bx am;simp at am;rcases am with rfl|rfl<;>rfl) O1 O8 O1 (Ak _) _ rfl ?_;intro az aC h G ak r al;have s:=z.o h _ _ az aC ak r al G;obtain⟨⟨bv,a9,aB,ao⟩,s⟩:=s;have U:=O0 s;have bw:=ao 0;clear G ak r al s ao a9 aB))
     have ah:=bk.o;subst ah;exact⟨⟨a+1,_,_,O1,by go_num,U.o⟩,by simp[intOf];omega⟩
    ·obtain rfl:a=L wd:=O1;have aV:¬(L wd:Int)<(L wd:Int):=O1;obtain⟨aD,aE,aF,aG⟩:=d.o.m;clear aG;have aY:wc.map (·.1)++(wd.take (L wd)).map (·.1)=Jq wc (wd.map CY):=by
      unfold Jq;rw[AQ,Aqz];rfl
     have aK:O9 ((Jq wc (wd.map CY)).length<=100000):=by show _<=_;unfold Jq;simp;omega
     have ad:=O0 (d.o.df bm.o);rw[aY]at ad;clear aY d a7 a4 a5 a6;obtain⟨O,a1⟩:∃bi,Jq wc (wd.map CY)=bi:=⟨_,rfl⟩;rw[a1]at aK ad;have aL:=O0 a1;clear a1;go_wp2;clear aD aE aF;generalize W g (L wc+L wd) e=GV at ad;go_loopw [43] (λp wr=>∃a:Nat,a<=L wd/\p=V C (a:Int)/\O9 (NI n f (S v) (W D (L wc) t) (W B (L wd) q) wr GV O (DG N (((wd.map CY).take a).flatMap (dF O))))) (λp _=>L wd-(intOf p).toNat)
     case atStart=>exact⟨0,Ak _,rfl,ad.o⟩
     case round=>
      clear ad;obtain⟨a,aX,rfl,d⟩:=hrel;rename Q=>wr
      by_cases k:a<L wd
      ·have aR:(0:Int)<=(a:Int):=O1;have aS:(a:Int)<(L wd:Int):=O1;obtain⟨av,rfl,Y,aa,ab,ay⟩:=YR (ac.o.bE F9 d.o.lk.pb.b) k;obtain⟨bh,bg,bf,aO,aP,af,ag⟩:=YC ac.o k;have au:=O0 (d.o.step aK.o ac.o k (bo.o _ (Ao k)));rw[af]at ab au;rw[ag]at ay au;have U:O9 (DG (DG N (((wd.map CY).take a).flatMap (dF O))) (dF O (wd[a].1,wd[a].2.2.1,wd[a].2.2.2.2.1))=DG N (((wd.map CY).take (a+1)).flatMap (dF O))):=by
        show _=_;rw[<-Py,Au (by simpa using k),AE,AC,Arj,A2,AN]
       rw[U.o]at au;clear af ag U;go_wp2_with (first
        |(go_at_call 60;refine(au.o _).mono ?_;rintro b1 h ⟨rfl,aZ⟩;have bn:=O0 aZ;clear aZ))
       exact⟨⟨a+1,O1,by go_num,bn.o⟩,by simp[intOf];omega⟩
      ·obtain rfl:a=L wd:=O1;have aV:¬(L wd:Int)<(L wd:Int):=O1;have aq:=d.o;rw[show(wd.map CY).take (L wd)=wd.map CY by rw[Arv O2]]at aq;have aJ:=O0 aq.lk.pb.b;obtain⟨ap,H,K,lf⟩:=aq.lk.ls;clear aq d lf;obtain⟨bq,a3⟩:∃bp,DG N ((wd.map CY).flatMap (dF O))=bp:=⟨_,rfl⟩;rw[a3]at H K;have aN:=O0 a3;clear a3;rcases bq with _|⟨c,b0⟩
       ·simp only[Ml,LN]at H K;go_wp2;go_ret;rw[aL.o,aN.o];exact⟨rfl,aJ.o⟩
       ·simp only[Ml,LN]at H K;go_wp2_with (first
         |(go_at_call 27;refine(Ou _ _ _ _).mono ?_;rintro aQ b7 ⟨rfl,rfl⟩))
        go_ret;rw[aL.o,aN.o];exact⟨rfl,aJ.o⟩
def Z7(a:DD):Prop:=C1 31 a.2.2/\DS 31 a.2.2/\L a.2.1<=2000
def dB(a:DD):List Nat:=a.2.1.map (·.2)++fB 31 a.2.2
def dU(a:DD):List Nat:=fU 31 a.2.2
structure Rs (b:Nat) (c:List IT) (a:List DD):Prop where
 len:(L c)+L a<=b
 ok:∀x∈a,Z7 x
 ap:Ap (a.flatMap dB) (a.flatMap dU) 0 b
theorem Ak6(i:v.size<=2000)(n:w<=v.size)(a:HK v g w=.ok (xx,s)):Z7 xx/\Ap (dB xx) (dU xx) w s:=by
 let ⟨t,k,l,a⟩:=Bk a
 have j:=Px w n t k l;let ⟨p,b,h,a⟩:=Bk a
 have f:=Kx k j.2 p b h;let ⟨d,c,e,a⟩:=Bk a
 have o:=IC v 30 b f.2 d c e;let ⟨r,q,m,a⟩:=Bk a
 have u:=B2 O4 c o.2 r q m;cases a;refine⟨⟨Ul i 30 b d c f.2 e,ZI i 30 b d c f.2 e,Zy i j.2 h⟩,?_⟩;exact((Wg j.2 h).cC (We v 30 b d c f.2 e) O1 O1).sub (λ_ a=>a) (λ_ a=>Ah _ a) O1 O1
theorem Sx{c:ByteArray}(q:c.size<=2000):∀(h:Nat) (m:Bm) (r:List IT) (n:List DD) (g:Nat) (e:List IT×List DD) (j:Nat),g<=c.size->Rs g r n->Fk c h m r n g=.ok (e,j)->Rs c.size e.1 e.2
 |0,_,_,_,_,_,_,_,_,a=>by rw[Fk]at a;cases a
 |h+1,m,r,n,g,e,j,hp,hi,a=>by
  rw[Fk]at a;split at a
  ·rename_i t
   have k0:=GY hp (by rw[t];decide);let ⟨D,k,b,a⟩:=Bk a
   have u:=Vv k0.2 b;match D,b,a with
   |.inl z,b,a=>
    refine Sx q h _ _ _ k e j u.2 ⟨?_,hi.ok,hi.ap.sub (λ_ a=>a) (λ_ a=>a) .refl O1⟩ a;have:=hi.len;simp;omega
   |.inr d,b,a=>
    have p:∃i,i<=c.size/\BG c g<=i/\HK c m i=.ok (d,k):=by
     unfold pG at b;split at b
     ·let ⟨z,v,_,o⟩:=Bk b
      cases o
     ·let ⟨w,v,o,x⟩:=Bk b
      have H:=B2 O4 _ k0.2 w v o;let ⟨l,M,E,G⟩:=Bk x
      grind
    let ⟨i,B,K,p⟩:=p
    let ⟨t,y⟩:=Ak6 q B p
    refine Sx q h _ _ _ k e j u.2 ⟨?_,λl f=>?_,?_⟩ a
    ·have:=hi.len;simp;omega
    ·rcases Ag.1 f with s|s
     ·exact hi.ok l s
     grind
    ·rw[AE,AE];refine(hi.ap.cC (y.sub (λ_ a=>a) (λ_ a=>a) O1 (Ac _)) (Ak _) O1).sub (λl f=>?_) (λl f=>?_) .refl .refl
     ·simpa using f
     ·simpa using f
  ·let ⟨w,k,b,a⟩:=Bk a
   cases a;exact⟨Aw hi.len hp,hi.ok,hi.ap.sub (λ_ a=>a) (λ_ a=>a) .refl hp⟩
theorem Af5(o:v.size<=2000)(n:w<=v.size)(a:Eh v w=.ok (vo,s)):Rs v.size vo.2.1 vo.2.2:=by
 let ⟨z,d,k,a⟩:=Bk a
 have b:d<=v.size:=by
  let ⟨t,f,g,h⟩:=Bk k
  have b:=B2 O4 w n t f g;let ⟨u,r,i,j⟩:=Bk h
  have c:=B2 O4 f b.2 u r i;cases j;omega
 let ⟨x,e,l,a⟩:=Bk a
 have c:=Px d b x e l;let ⟨y,q,m,a⟩:=Bk a
 have:=Sx o (v.size+1) [] [] [] e y q c.2 ⟨Ak _,λvo p=>(by cases p),Ap.nil _ _⟩ m;grind
def I3(b:List IT)(a:List DD):List (Nat×Nat):=a.flatMap (dF (Jq b a))
theorem UO:∀c b,DG (b.map λa=>(B5 a.1,a.2)) c=(HX b c).map λa=>(B5 a.1,a.2)
 |[],_=>rfl
 |a::r,b=>by
  show DG (J3 (b.map λa=>(B5 a.1,a.2)) (B5 a.1) a.2) r=(HX (I5 b a) r).map _;rw[<-UO r];match b with
  |none=>rfl
  |some y=>
   simp[Ati,J3,I5];split<;>rfl
def Db(a:ByteArray):Except (Nat×Nat) (ByteArray×List IT×List DD):=
 if 2000<a.size then P (1,0) else
  match Eh a 0 with
  |P e=>P e
  |.ok (x,_)=>match HX N (I3 x.2.1 x.2.2) with
   |none=>.ok x
   |some e=>P e
def TF:X:=T #[S ⟨#[]⟩,W N 0 0,W N 0 0]
def VB(n:ByteArray)(m:Nat->Addr)(b:Q)(i:Ending)(d:Q):Prop:=Below b.heap.size b d/\match Db n with
 |P (c,a)=>i=F (R #[TF,EU m (B5 c) a])
 |.ok (nm,im,df)=>∃j k e h l f g,i=F (R #[T #[S nm,W j k e,W h l f],.nilIface])/\H2 d b.heap.size (W j k e) im/\Ho d b.heap.size (W h l f) g/\g.map CY=df
theorem Anl(e:R6 n m (W (I ⟨w,0,N⟩) (Cv v 0).length s) (Cv v 0)):PS (n.alloc (.cells #[W (I ⟨w,0,N⟩) (Cv v 0).length s,W N 0 0,V C 0] 104)) n.heap.size w v 0 (W N 0 0) 0:=by
 have hb:Below n.heap.size n (n.alloc (.cells #[W (I ⟨w,0,N⟩) (Cv v 0).length s,W N 0 0,V C 0] 104)):=bA;have p:=e.rg w (Ad _ (BM.2 rfl));have b:=e.own;have f:(Cv v 0).length<=s/\s<=9223372036854775807:=by
  rcases b.2 with⟨a,-⟩|⟨l,j,k,a,-,-,o,h,-⟩
  ·cases a
  ·cases a;unfold maxLen at h;omega
 refine⟨⟨0,s,O2,f.1,f.2,O1,λc i=>?_⟩,O2,O2,λq _=>O2⟩;have g:=Ju (λd:ByteArray×Nat=>(S d.1)) (λd=>V C d.2) (Cv v 0) c i;rw[Aqy];refine⟨Bn hb ?_,Bn hb ?_⟩
 ·rw[b.cellAt (c*2) O1];exact g.1
 ·rw[b.cellAt (c*2+1) O1];exact g.2
theorem Afc(a:¬2000<v.size)(b:Eh v 0=P s9):Db v=P s9:=by unfold Db;rw[if_neg a,b]
theorem Al0(a:¬2000<v.size)(b:Eh v 0=.ok (vo,w))(c:HX N (I3 vo.2.1 vo.2.2)=N):Db v=.ok vo:=by unfold Db;grind
theorem Ap7(a:¬2000<v.size)(b:Eh v 0=.ok (vo,w))(c:HX N (I3 vo.2.1 vo.2.2)=I s9):Db v=P s9:=by unfold Db;grind
theorem Ah9(a:2000<v.size):Db v=P (1,0):=by unfold Db;rw[if_pos a]
theorem Aa5(c:Below n.heap.size n p)(e:Below p.heap.size p H)(a:EF H.heap.size (H.alloc vg) ni):Below n.heap.size n ni:=by
 have b:=c.trans (e.mono c.size);have g:=b.size;refine⟨a.os.trans b.os,a.tape.trans b.tape,a.output.trans b.output,by have:=a.size;simp at this;omega,λd f=>?_⟩;rw[a.block d O5 O1,Ara _ _ O1];exact b.block d f
theorem Aiw(p:v.size<=2000)(h:Eh v 0=.ok ((nl,wc,vx),s))(l:SY n f)(k:H2 n w b wc)(j:Ho n w i wd)(m:wd.map CY=vx)(a:Obj):Av Aa 30 #[T #[S nl,b,i]] (n.alloc a) λg r=>g=F (ZL f (DG N (I3 wc vx)))/\O9 (Below (n.alloc a).heap.size (n.alloc a) r):=by
 have c:Below n.heap.size n (n.alloc a):=bA;subst m;have d:=Af5 p (Ak _) h;have o:=d.len;simp[Ax]at o;refine Apl (l.bE c) (k.bE IV c) (j.bE F9 c) ?_ ?_ λe q=>d.ok (CY e) (AK.2 ⟨e,q,rfl⟩)<;>omega
theorem WD{s:ByteArray}(aK:s.size<=2000->∀B aH aI,Kt B aH aI f s)(E:SY n f):Av Aa 16 #[S s] n λa H=>VB s f n a H:=by
 obtain⟨j,h⟩:∃j,j=n.alloc (.cells #[S ⟨#[]⟩,W N 0 0,W N 0 0] 61):=⟨_,rfl⟩;have ac:Below n.heap.size n j:=by rw[h];exact bA
 have D:=O0 ac;have a6:j.heap.size=n.heap.size+1:=by rw[h];simp
 have aj:O9 (V3 j n.heap.size (S ⟨#[]⟩) (W N 0 0) (W N 0 0)):=by
  subst h;exact⟨O2,O2,O2,λbi=>O2⟩
 have a1:=O0 (E.bE ac);by_cases ad:2000<s.size
 ·have q:O9 (Db s=P (1,0)):=Ah9 ad;have aQ:(2000:Int)<(s.size:Int):=O1;have aR:=a1.o.lg;obtain⟨aW,aX,aY,ag⟩:=id aj.o;have al:=ag 0;have am:=ag 1;have an:=ag 2;rw[h]at aR aW aX aY al am an;clear E ac ag;go_enter Tryz.func16,Tryz.ntmps16;go_wp2_with (first
   |(go_at_call 27;refine(Ou _ _ _ _).mono ?_;rintro a bn ⟨rfl,rfl⟩))
  refine AV (v:=R #[TF,EU f 4 0]) (by simp[results,Tryz.results16,go_sem,TF,EU]) rfl ?_;rw[<-h];refine⟨D.o,?_⟩;rw[q.o];rfl
 ·have aQ:¬(2000:Int)<(s.size:Int):=O1;have ae:s.size<=2000:=O1;have ai:O9 (Av Aa 28 #[S s] j λa e=>∃t af b,a=F (W (I ⟨t,0,N⟩) af b)/\O9 (Below j.heap.size j e)/\O9 (Av Aa 29 #[J (I ⟨e.heap.size,0,N⟩)] (e.alloc (.cells #[W (I ⟨t,0,N⟩) af b,W N 0 0,V C 0] 104)) λa H=>QS e.heap.size f (e.alloc (.cells #[W (I ⟨t,0,N⟩) af b,W N 0 0,V C 0] 104)) (Eh s 0) a H)):=by
   refine(Ad5 s j ae).mono ?_;rintro a e ⟨a5,t,b,rfl,aN⟩;refine⟨t,_,b,rfl,a5,?_⟩;have aO:Below e.heap.size e (e.alloc (.cells #[W (I ⟨t,0,N⟩) (Cv s 0).length b,W N 0 0,V C 0] 104)):=bA;have ap:Below n.heap.size n e:=D.o.trans (a5.mono D.o.size);exact Ain (B:=n) ae (aK ae _ _ _) ⟨E,ap.trans (aO.mono ap.size),ap.size⟩ (Anl aN) (Ak _)
  have aF:=O0 E;have aC:O9 (Below n.heap.size n (n.alloc (.cells #[S ⟨#[]⟩,W N 0 0,W N 0 0] 61))):=by rw[<-h];exact D.o
  have aG:O9 (V3 (n.alloc (.cells #[S ⟨#[]⟩,W N 0 0,W N 0 0] 61)) n.heap.size (S ⟨#[]⟩) (W N 0 0) (W N 0 0)):=by rw[<-h];exact aj.o
  have a3:O9 ((n.alloc (.cells #[S ⟨#[]⟩,W N 0 0,W N 0 0] 61)).heap.size=n.heap.size+1):=by rw[<-h];exact a6
  rw[h]at ai;clear E ac D aj a1 a6 h j;have ay:O9 (∀{O:Act} {ak:Q} {aZ ba bb:X} {b w:Nat},O.defers=[]->O.tmps[2]?.getD Aq1=J (I ⟨n.heap.size,0,N⟩)->O.tmps[3]?.getD Aq1=Z 109 (Gy f (B5 b) w)->V3 ak n.heap.size aZ ba bb->Below n.heap.size n ak->Db s=P (b,w)->bodyPost Aa Tryz.f16 (λa H=>VB s f n a H) .ret O (((ak.setCell ⟨n.heap.size,0,N⟩ (S ⟨#[]⟩)).setCell ⟨n.heap.size,1,N⟩ (W N 0 0)).setCell ⟨n.heap.size,2,N⟩ (W N 0 0))):=λaP u aJ aM hb aL=>AV (PZ rfl u aJ (aM.put _ _ _)) aP ⟨Li (Li (Li hb (Ac _) _) (Ac _) _) (Ac _) _,by rw[aL];rfl⟩;go_enter Tryz.func16,Tryz.ntmps16;go_wp2_with (first
   |(go_at_call 28;refine ai.o.mono ?_;rintro a e ⟨t,af,cc,rfl,K,a0⟩;clear ai)
   |(go_at_call 29;refine a0.o.mono ?_;rintro a d ⟨aa,ar⟩;have bc:=O0 aa;have p:=O0 (Aa5 aC.o K.o aa);have a2:=O0 (((aG.o.bE K.o).bE bA).ef aa (by have:=K.o.size;have:=a3.o;omega));clear aa a0;rcases h1:Eh s 0 with⟨b,w⟩|⟨⟨m,i,U⟩,bm⟩<;>rw[h1]at ar;(·obtain⟨m,l,a7,a8,k,a9,aB,c⟩:=ar;replace c:a=F (R #[T #[S m,W l a7 a8,W k a9 aB],Z 109 (Gy f (B5 b) w)]):=c;subst c;have aw:O9 (Below d.heap.size d (d.alloc (.cells #[S m,W l a7 a8,W k a9 aB] 61))):=bA;have x:=O0 (a2.o.bE aw.o);obtain⟨⟨aS,aT,aV⟩,al,am,an⟩:=x.o.a;have q:=O0 (Afc ad h1);clear h1;go_wp2;exact ay.o rfl rfl rfl x.o (p.o.trans (aw.o.mono p.o.size)) q.o);obtain⟨bh,be,r,c,ab,Y,aq⟩:=ar;obtain⟨l,y,rfl⟩:=ab.slice;obtain⟨k,z,rfl⟩:=Y.slice;subst c;have az:=O0 ab;have ax:=O0 Y;have aD:=O0 aq;have aE:=O0 (Aiw ae h1 (aF.o.bE p.o) ab Y aq);have av:=O0 h1;clear ab Y aq h1)
   |(go_at_call 30;refine(aE.o _).mono ?_;rintro a au ⟨c,M⟩;have ah:O9 (Below d.heap.size d au):=((Ae d.heap.size d).alloc (Ac _) _).trans (M.o.mono O2);have x:=O0 (a2.o.bE ah.o);obtain⟨⟨aS,aT,aV⟩,al,am,an⟩:=x.o.a;have G:=UO (I3 i U) N;rcases u:HX N (I3 i U) with _|⟨b,w⟩<;>rw[u]at G;rotate_left;(·rw[show DG N (I3 i U)=I (B5 b,w) from G]at c;replace c:a=F (Z 109 (Gy f (B5 b) w)):=c;subst c;have q:=O0 (Ap7 ad av.o u);clear u G;go_wp2;exact ay.o rfl rfl rfl x.o (p.o.trans (ah.o.mono p.o.size)) q.o);rw[show DG N (I3 i U)=N from G]at c;replace c:a=F .nilIface:=c;subst c;have q:=O0 (Al0 ad av.o u);clear u G;have bj:=Bn M.o (show(d.alloc (.cells #[S m,W l (L i) y,W k (L r) z] 61)).cell? ⟨d.heap.size,0,N⟩=I (S m) by simp);have bk:=Bn M.o (show(d.alloc (.cells #[S m,W l (L i) y,W k (L r) z] 61)).cell? ⟨d.heap.size,1,N⟩=I (W l (L i) y) by simp);have bl:=Bn M.o (show(d.alloc (.cells #[S m,W l (L i) y,W k (L r) z] 61)).cell? ⟨d.heap.size,2,N⟩=I (W k (L r) z) by simp)))
  refine AV (PZ rfl rfl rfl (x.o.put (S m) (W l (L i) y) (W k (L r) z))) rfl ?_;have ao:=ah.o;refine⟨Li (Li (Li (p.o.trans (ao.mono p.o.size)) (Ac _) _) (Ac _) _) (Ac _) _,?_⟩;rw[q.o];have bf:=K.o.size;have bg:=a3.o;have a4:∀g,g≠n.heap.size->(((au.setCell ⟨n.heap.size,0,N⟩ (S m)).setCell ⟨n.heap.size,1,N⟩ (W l (L i) y)).setCell ⟨n.heap.size,2,N⟩ (W k (L r) z)).heap[g]?=au.heap[g]?:=λg hb=>by rw[Az _ _ _ _ hb,Az _ _ _ _ hb,Az _ _ _ _ hb]
  refine⟨_,_,_,_,_,_,r,rfl,?_,?_,aD.o⟩
  ·refine((az.o.bE IV ao).fr IV O2 λg hb=>a4 g ?_).low O5;have:=(az.o.rg g hb).1;simp at this;omega
  ·refine((ax.o.bE F9 ao).fr F9 O2 λg hb=>a4 g ?_).low O5;have:=(ax.o.rg g hb).1;simp at this;omega
def CD{e:Type}(d:Nat->Pr e):Prop:=∀c a b,d c=P (a,b)->a=2\/a=3\/a=5
theorem HB(b c:ByteArray):CD (BS b c):=by
 intro f e d a;unfold BS at a;grind
theorem Ri(b:ByteArray):CD (FE b):=by
 intro e d c a;unfold FE at a;grind
theorem TG(c:ByteArray)(b:Nat):CD (Es c b):=by
 intro f e d a;unfold Es at a;grind
theorem XB(b:ByteArray):CD (Ec b):=by
 intro e d c a;unfold Ec at a;grind
theorem XU(f:ByteArray):∀d g,CD (EQ f d g)
 |0,_=>λi c b a=>by cases a;decide
 |d+1,g=>λi c b a=>by
  rw[EQ]at a;split at a
  ·cases a
  ·rcases Ci a with h|⟨k,j,h,e⟩
   ·exact Ri f i c b h
   ·split at e
    ·cases e;decide
    ·exact XU f d _ j c b e
theorem Vy(a:ByteArray):CD (Ge a):=by
 intro g c b e;rcases Ci e with d|⟨i,h,d,f⟩
 ·exact HB a _ g c b d
 ·exact XU a _ _ h c b f
section
variable {s:ByteArray} {E:Nat->Pr Ex} (hZ:CD E)
include hZ
theorem YY:∀d e,CD (EB s E d e)
 |0,_=>λg c b a=>by cases a;decide
 |d+1,e=>λg c b a=>by
  rw[EB]at a;split at a
  ·cases a
  ·rcases Ci a with f|⟨j,i,f,h⟩
   ·exact hZ g c b f
   ·exact YY d _ i c b h
theorem Zl:∀d e,CD (Fj s E d e)
 |0,_=>λg c b a=>by cases a;decide
 |d+1,e=>λg c b a=>by
  rw[Fj]at a;split at a
  ·cases a
  ·split at a
   ·cases a;decide
   ·rcases Ci a with f|⟨j,i,f,h⟩
    ·exact hZ g c b f
    ·exact Zl d _ i c b h
theorem U8:∀e g f,CD (FW s E e g f)
 |0,_,_=>λh d c a=>by cases a;decide
 |e+1,g,f=>λh d c a=>by
  rcases Ci a with b|⟨m,i,b,a⟩
  ·exact HB s _ h d c b
  rcases Ci a with b|⟨n,j,b,a⟩
  ·exact Ri s i d c b
  split at a
  ·cases a;decide
  rcases Ci a with b|⟨o,k,b,a⟩
  ·exact hZ j d c b
  rcases Ci a with b|⟨p,l,b,a⟩
  ·exact HB s _ k d c b
  split at a
  ·cases a
  ·exact U8 e _ _ l d c a
theorem Xd:∀e f,CD (FX s E e f)
 |0,_=>λg d c a=>by rw[FX]at a;cases a;decide
 |e+1,f=>λg d c a=>by
  rw[FX]at a;rcases Ci a with b|⟨m,h,b,a⟩
  ·exact HB s _ g d c b
  rcases Ci a with b|⟨n,i,b,a⟩
  ·exact TG s _ h d c b
  split at a
  ·cases a;decide
  rcases Ci a with b|⟨o,j,b,a⟩
  ·exact Vy s i d c b
  rcases Ci a with b|⟨p,k,b,a⟩
  ·exact hZ j d c b
  rcases Ci a with b|⟨q,l,b,a⟩
  ·exact HB s _ k d c b
  split at a
  ·cases a
  ·exact Xd e _ l d c a
theorem V9(i:Bool):CD (Fy s E i):=by
 intro e d c b;rcases Ci b with a|⟨k,f,a,b⟩
 ·exact HB s _ e d c a
 rcases Ci b with a|⟨l,g,a,b⟩
 ·exact U8 hZ _ _ _ f d c a
 rcases Ci b with a|⟨m,h,a,b⟩
 ·exact HB s _ g d c a
 rcases Ci b with a|⟨n,j,a,b⟩
 ·exact hZ h d c a
 cases b
theorem Aap:CD (Hb s E):=by
 intro e d c a;rcases Ci a with b|⟨h,f,b,a⟩
 ·exact TG s _ e d c b
 rcases Ci a with b|⟨i,g,b,a⟩
 ·exact Zl hZ _ _ f d c b
 cases a
theorem Agw:CD (H1 s E):=by
 intro e d c a;rcases Ci a with b|⟨h,f,b,a⟩
 ·exact hZ e d c b
 rcases Ci a with b|⟨i,g,b,a⟩
 ·exact Xd hZ _ _ f d c b
 cases a
theorem Afz:CD (Is s E):=by
 intro e d c b;rcases Ci b with a|⟨i,f,a,b⟩
 ·exact hZ e d c a
 rcases Ci b with a|⟨j,g,a,b⟩
 ·exact hZ f d c a
 rcases Ci b with a|⟨k,h,a,b⟩
 ·exact YY hZ _ _ g d c a
 cases b
theorem Aih:CD (Dx s E):=by
 intro f c b a;unfold Dx at a;split at a
 ·rcases Ci a with d|⟨h,e,d,a⟩
  ·exact hZ _ c b d
  rcases Ci a with d|⟨i,g,d,a⟩
  ·exact hZ e c b d
  cases a
 ·split at a
  ·exact V9 hZ _ _ c b a
  ·split at a
   ·exact V9 hZ _ _ c b a
   ·split at a
    ·exact Aap hZ _ c b a
    ·split at a
     ·exact Agw hZ _ c b a
     ·exact Afz hZ _ c b a
end
theorem ZE(e:ByteArray):∀f,CD (pE e f)
 |0=>λg c b a=>by
  rw[pE]at a;split at a
  ·cases a;decide
  ·exact XB e g c b a
 |f+1=>λg c b a=>by
  rw[pE]at a;split at a
  ·rcases Ci a with d|⟨j,h,d,a⟩
   ·exact Aih (ZE e f) _ c b d
   rcases Ci a with d|⟨k,i,d,a⟩
   ·exact HB e _ h c b d
   cases a
  ·exact XB e g c b a
theorem Sq(d:ByteArray):∀g,CD (Fz d g)
 |[]=>λf c b a=>by cases a
 |t::r=>λf c b a=>by
  rcases Ci a with e|⟨i,h,e,a⟩
  ·exact HB d _ f c b e
  ·exact Sq d r h c b a
theorem Q2(c:ByteArray)(f:List ByteArray):CD (C9 c f):=by
 intro g e d a;rcases Ci a with b|⟨i,h,b,a⟩
 ·exact Ri c g e d b
 grind
theorem Afd(c:ByteArray)(f:Bm):CD (HK c f):=by
 intro g e d b;rcases Ci b with a|⟨l,h,a,b⟩
 ·exact Q2 c _ g e d a
 rcases Ci b with a|⟨m,i,a,b⟩
 ·exact Vy c h e d a
 rcases Ci b with a|⟨n,j,a,b⟩
 ·exact ZE c 30 i e d a
 rcases Ci b with a|⟨o,k,a,b⟩
 ·exact HB c _ j e d a
 cases b
theorem Abt(c:ByteArray)(g:Bm)(j:Bool):CD (pG c g j):=by
 intro l e d b;unfold pG at b;split at b
 ·rcases Ci b with a|⟨i,f,a,b⟩
  ·rcases Ci a with a|⟨i,f,a,b⟩
   ·exact Q2 c _ _ e d a
   rcases Ci b with a|⟨k,h,a,b⟩
   ·exact TG c _ f e d a
   rcases Ci b with a|⟨n,m,a,b⟩
   ·exact HB c _ h e d a
   cases b
  ·cases b
 ·rcases Ci b with a|⟨i,f,a,b⟩
  ·exact HB c _ _ e d a
  rcases Ci b with a|⟨k,h,a,b⟩
  ·exact Afd c g f e d a
  cases b
theorem Tu(f:ByteArray):∀g h l (k:List DD),CD (Fk f g h l k)
 |0,_,_,_=>λm c b a=>by cases a;decide
 |g+1,h,l,k=>λm c b a=>by
  rw[Fk]at a;split at a
  ·rcases Ci a with e|⟨n,j,e,a⟩
   ·exact Abt f h _ _ c b e
   match n,a with
   |.inl i,a=>exact Tu f g _ _ _ j c b a
   |.inr d,a=>exact Tu f g _ _ _ j c b a
  ·rcases Ci a with e|⟨n,j,e,a⟩
   ·exact Sq f _ m c b e
   cases a
theorem Acg(c:ByteArray):CD (Eh c):=by
 intro f e d b;rcases Ci b with a|⟨j,g,a,b⟩
 ·exact Sq c _ f e d a
 rcases Ci b with a|⟨k,h,a,b⟩
 ·exact Q2 c _ g e d a
 rcases Ci b with a|⟨l,i,a,b⟩
 ·exact Tu c _ _ _ _ h e d a
 cases b
def K0(a:ByteArray):Nat×Nat:=match Db a with
 |P e=>e
 |.ok _=>(0,0)
theorem RE(a:Db v=P (w,s)):w=1\/w=2\/w=3\/w=4\/w=5:=by
 unfold Db at a;split at a
 ·grind
 ·match h1:Eh v 0,a with
  |P (c',a'),a=>
   cases a;have:=Acg v 0 w s h1;omega
  |.ok (x,q),a=>
   simp at a;match h2:HX N (I3 x.2.1 x.2.2),a with
   |some e,a=>
    cases a;have b:=((QC _ N).1 _ h2).1;rcases b with b|b
    ·let ⟨f,g,d⟩:=AP.1 b
     rcases Ag.1 d with c|c
     ·have:=(P5 _ _ _ c).1;omega
     ·have:=UM _ 31 _ _ _ ((WK _ 31 _ _ _).2 c);omega
    ·cases b
theorem WS(a:w=1\/w=2\/w=3\/w=4\/w=5):HG (B5 w)=(w:Int):=by
 rcases a with rfl|rfl|rfl|rfl|rfl<;>rfl
theorem Xf(a:w=1\/w=2\/w=3\/w=4\/w=5):1<=B5 w/\B5 w<19:=by
 rcases a with rfl|rfl|rfl|rfl|rfl<;>decide
theorem Vd(c b:X)(a:Q):Sem.run Aa (Instr.field 47 (T #[c,b]) 1) a=.ok b a:=O3
theorem Aon{s:ByteArray}(Y:s.size<=2000->∀H M O,Kt H M O f s)(D:DP n f)(E:SY n f):Av Aa 9 #[S s] n λa aa=>Below n.heap.size n aa/\a=F (R #[V C ((K0 s).1:Int),V C ((K0 s).2:Int)]):=by
 have j:=O0 (WD (s:=s) Y E);have z:=O0 D;have ad:=Vd;clear D E;match h:Db s with
 |P (d,e)=>
  have y:=RE h;have K:O9 (HG (B5 d)=(d:Int)):=WS y;have B:O9 (1<=B5 d/\B5 d<19):=Xf y;have x:O9 (K0 s=(d,e)):=by show _=_;unfold K0;rw[h]
  have k:O9 (Av Aa 16 #[S s] n λa b=>a=F (R #[T #[S ⟨#[]⟩,W N 0 0,W N 0 0],Gv (f (B5 d)) 0 (e:Int)])/\O9 (Below n.heap.size n b)):=by
   refine j.o.mono ?_;rintro a b ⟨hb,g⟩;rw[h]at g;exact⟨g,hb⟩
  unfold Gv at k;clear h j y;go_enter Tryz.func9,Tryz.ntmps9;go_wp2_with (first
   |(go_at_call 16;refine k.o.mono ?_;rintro a b ⟨rfl,c⟩)
   |(go_at_call 17;refine(Q9 (z.o.bE (c.o.trans (((Ae b.heap.size b).alloc (Ac _) _).mono c.o.size))) (B5 d) ⟨by have:=B.o;omega,B.o.2⟩ 0 (e:Int)).mono ?_;rintro a ab ⟨rfl,G⟩;have u:=O0 ((c.o.trans (((Ae b.heap.size b).alloc (Ac _) _).mono c.o.size)).trans (G.mono (Aw c.o.size O2)));clear G)
   |(go_at_call 18;refine(RM (z.o.bE u.o) (f (B5 d)) 0 (e:Int)).mono ?_;rintro a ac ⟨rfl,i⟩;have w:=O0 (u.o.trans (i.mono u.o.size));clear i))
  refine AV (v:=R #[V C (HG (B5 d)),V C (e:Int)]) (by simp[results,Tryz.results9,go_sem]) rfl ?_;refine⟨w.o,?_⟩;rw[x.o,K.o]
 |.ok (nm,im,df)=>
  have x:O9 (K0 s=(0,0)):=by show _=_;unfold K0;rw[h]
  have k:O9 (Av Aa 16 #[S s] n λa b=>∃q r l p t m,a=F (R #[T #[S nm,W q r l,W p t m],.nilIface])/\O9 (Below n.heap.size n b)):=by
   refine j.o.mono ?_;rintro a b ⟨hb,g⟩;rw[h]at g;obtain⟨q,r,l,p,t,m,ae,U,-⟩:=g;exact⟨q,r,l,p,t,m,U,hb⟩
  clear h j;go_enter Tryz.func9,Tryz.ntmps9;go_wp2_with (first
   |(go_at_call 16;refine k.o.mono ?_;rintro a b ⟨q,r,l,p,t,m,rfl,c⟩)
   |(go_at_call 17;refine(Re _).mono ?_;rintro a ab ⟨rfl,rfl⟩)
   |(go_at_call 18;refine(V0 _).mono ?_;rintro a ac ⟨rfl,i⟩;have w:=O0 ((c.o.trans (((Ae b.heap.size b).alloc (Ac _) _).mono c.o.size)).trans (i.mono (Aw c.o.size O2)));clear i))
  refine AV (v:=R #[V C 0,V C 0]) (by simp[results,Tryz.results9,go_sem]) rfl ?_;refine⟨w.o,?_⟩;rw[x.o];rfl
theorem Vh:Oz.toList=[108,101,116]:=by rw[Aq0];rfl
theorem Zn:On.toList=[108,101,116,114,101,99]:=by rw[Aq0];rfl
theorem ZP:PL.toList=[99,111,110]:=by rw[Aq0];rfl
theorem UL:OA.toList=[99,97,115,101]:=by rw[Aq0];rfl
theorem Aa1(b:I2 v=I w):v≠⟨#[]⟩:=λa=>by
 have:I2 ⟨#[]⟩=none:=rfl;grind
theorem Aqc(a:I2 (Bp v w)=I s):Dx v nw w=NT nw s (BG v w):=by unfold Dx;rw[a];rfl
theorem Agm{E:Nat->Pr Ex}(a:I2 (Bp v w)=N):Dx v E w=if Bp v w=Oz then Fy v E false (BG v w)
 else if Bp v w=On then Fy v E true (BG v w)
 else if Bp v w=PL then Hb v E (BG v w)
 else if Bp v w=OA then H1 v E (BG v w)
 else Is v E w:=by unfold Dx;rw[a]
theorem Aqe(Y:v.size<=2000)(x:GW n w s f v b m j)(ac:P7 n w s f v b m j):Lp 251 n w s f v b m j (Dx v (pE v m)) #[]:=by
 intro d c ab O D;have af:=O0 (Ga O D);have r:=O0 ab;have ah:=O0 O;have B:=Dq D;have aj:=HM;have M:O9 (Pz (Bp v c)=match I2 (Bp v c) with|some G=>R #[V C (9+(G:Int)),A true]|none=>R #[V C 0,A false]):=rfl;clear ab O;show Av _ _ #[J (I ⟨w,0,N⟩)] _ _;cases hk:I2 (Bp v c);case' some G=>
  have z:=O0 (Aa1 hk);rw[hk]at M;have t:O9 (∀a,EF w d a->PS a w s v (BG v c) b j->Av Aa 270 #[J (I ⟨w,0,N⟩),V C (9+(G:Int))] a λg i=>B9 (Dx v (pE v m) c) w d f (XV (m+2) v w s b j d) g i):=λa e k=>by
   rw[Aqc hk];exact(Aim G x a _ (r.o.ef e) k B).mono λ_ _ h=>h.cD e
 case' none=>
  have y:=Agm (E:=pE v m) hk;rw[hk]at M;by_cases l:Bp v c=Oz;case' pos=>
   have z:O9 (Bp v c≠⟨#[]⟩):=by show _≠_;rw[l];decide
   have ai:=Hw Vh l;have aa:((Bp v c).toList==[108,101,116,114,101,99])=false:=by grind
   have t:O9 (∀a,EF w d a->PS a w s v (BG v c) b j->Av Aa 271 #[J (I ⟨w,0,N⟩),A false] a λg i=>B9 (Dx v (pE v m) c) w d f (XV (m+2) v w s b j d) g i):=λa e k=>by
    rw[y,if_pos l];exact(Y1 false x ac a _ (r.o.ef e) k B).mono λ_ _ h=>h.cD e
  case' neg=>
   have ai:=HP Vh l;by_cases p:Bp v c=On;case' pos=>
    have z:O9 (Bp v c≠⟨#[]⟩):=by show _≠_;rw[p];decide
    have aa:=Hw Zn p;have t:O9 (∀a,EF w d a->PS a w s v (BG v c) b j->Av Aa 271 #[J (I ⟨w,0,N⟩),A true] a λg i=>B9 (Dx v (pE v m) c) w d f (XV (m+2) v w s b j d) g i):=λa e k=>by
     rw[y,if_neg l,if_pos p];exact(Y1 true x ac a _ (r.o.ef e) k B).mono λ_ _ h=>h.cD e
   case' neg=>
    have aa:=HP Zn p;by_cases q:Bp v c=PL;case' pos=>
     have z:O9 (Bp v c≠⟨#[]⟩):=by show _≠_;rw[q];decide
     have b3:=Hw ZP q;have t:O9 (∀a,EF w d a->PS a w s v (BG v c) b j->Av Aa 272 #[J (I ⟨w,0,N⟩)] a λg i=>B9 (Dx v (pE v m) c) w d f (XV (m+2) v w s b j d) g i):=λa e k=>by
      rw[y,if_neg l,if_neg p,if_pos q];exact(Ag2 Y x a _ (r.o.ef e) k B).mono λ_ _ h=>h.cD e
    case' neg=>
     have b3:=HP ZP q;by_cases u:Bp v c=OA;case' pos=>
      have z:O9 (Bp v c≠⟨#[]⟩):=by show _≠_;rw[u];decide
      have b4:=Hw UL u;have t:O9 (∀a,EF w d a->PS a w s v (BG v c) b j->Av Aa 273 #[J (I ⟨w,0,N⟩)] a λg i=>B9 (Dx v (pE v m) c) w d f (XV (m+2) v w s b j d) g i):=λa e k=>by
       rw[y,if_neg l,if_neg p,if_neg q,if_pos u];exact(Ada Y x a _ (r.o.ef e) k B).mono λ_ _ h=>h.cD e
     case' neg=>
      have b4:=HP UL u;have t:O9 (∀a,EF w d a->PS a w s v c b j->Av Aa 274 #[J (I ⟨w,0,N⟩)] a λg i=>B9 (Dx v (pE v m) c) w d f (XV (m+2) v w s b j d) g i):=λa e k=>by
       rw[y,if_neg l,if_neg p,if_neg q,if_neg u];exact(Ag7 Y x a _ (r.o.ef e) k D).mono λ_ _ h=>h.cD e
 all_goals
  clear hk;try clear y
  try clear l
  try clear p
  try clear q
  try clear u
  go_enter Tryz.func251,Tryz.ntmps251;go_wp2_with (first
   |(go_at_call 57;refine af.o.mono ?_;rintro g a ⟨rfl,U⟩;have H:O9 (EF w d a):=EF.bG U;have K:=O0 (ah.o.below U);clear U)
   |(go_at_call 269;refine(Afm _ _).mono ?_;rintro g i ⟨rfl,rfl⟩;rw[M.o])
   |(go_at_call 58;refine(I8 K.o D).mono ?_;rintro g am ⟨rfl,ad,ae⟩;replace H:=O0 (H.o.trans ad);replace K:=O0 (ae z.o);clear ad ae)
   |((first|go_at_call 270|go_at_call 271|go_at_call 272|go_at_call 273|go_at_call 274);refine(t.o _ H.o K.o).mono ?_;intro g an h;have ag:=O0 h;obtain⟨ak,al,rfl⟩:=h.two;clear h))
  go_ret2
  exact ag.o
theorem VV{e:Q}{f g:Nat}{h:Nat->Addr}{d:ByteArray}{i:X}(c:d.size<=2000)(j:∀b a,GW e f g h d i b a->P7 e f g h d i b a):∀b a,a+b=30->GW e f g h d i b a
 |0,a,hn=>by
  obtain rfl:a=30:=O1;exact Xp c Acw
 |b+1,a,hn=>by
  have k:=VV c j b (a+1) O1;exact Xp c (Alk O1 (Aqe c k (j b (a+1) k)))
theorem Ae8(h:v.size<=2000)(d:GW n w s f v b m j):P7 n w s f v b m j:=
 λ_ _ _ _ _ _ _ _ _ c e g a=>Aa6 h d c e g a
theorem Vb(c:v.size<=2000):∀a d,d+a=30->GW n w s f v b a d:=VV c λ_ _ e=>Ae8 c e
end Go.Proofs.YtcacpmkdfnmhaaaGreatDoor
