import Derived.Shelf.Pu.Clone
import Derived.Test.YtnghccjoicmabaaGreatDoorZnJ
import Derived.Test.YtnghccjoicmabaaGreatDoorLy2J
set_option maxRecDepth 100000
set_option maxHeartbeats 8000000
open Except renaming error->P
open Go renaming Calls->Adg,Value->X,World->Q,maxLen->Aed,undef->Aet,wpList_append_lies->Adl
open Go.Ending renaming returned->F
open Go.IntKind renaming i64->C
open Go.Obj renaming cells->Adi
open Go.Proofs.Tryz renaming prog->Acs
open Go.Value renaming agg->T,iface->Z,int->V,pointer->J,slice->W,string->S,tuple->R
open Go.World renaming news_of_block->Adu
open Or renaming inl->Ads,inr->Ad7
namespace Go.Proofs.YtnghccjoicmabaaGreatDoor
open Go.RowKit Go.Shelf
def Abz:Ren:=⟨λ_=>70,λa=>if a=37 then 141 else if a=47 then 228 else if a=3 then 3 else if a=4 then 4 else if a=5 then 5 else if a=9 then 9 else 0,λa=>a⟩
theorem ZK:LaysPu.n25 Acs Abz:=by
 constructor;all_goals first
  |kernel_rfl
  |(intro a;rfl)
theorem HZ(b:ByteArray)(a:Q)(f:b.size<=100000):Adg Acs 33 #[S b] a λc d=>c=F (S b)/\Below a.heap.size a d:=by
 go_enter Tryz.func33,Tryz.ntmps33;go_wp2_with (first
  |(refine((hid (λa=>AnyPu.stringslite_Clone ZK b a (by omega))).out _).mono ?_;rintro c g ⟨rfl,e⟩))
 go_ret;simp_all
end Go.Proofs.YtnghccjoicmabaaGreatDoor
namespace Go.Proofs.YtnghccjoicmabaaGreatDoor
open Go.RowKit Go.Sort
variable{w b x v:Nat}{N:Ex}{n p h w0:World}{o:Nat->Addr}{m q j f:Value}{w2:Bool}{s wn:ByteArray}{L:Option Addr}{nq l:Av}{nt:OO}{G:List IT}{D:List DT}{xo:DD}{vj:ByteArray×List IT×List DD}{vh:List DD}{nd:Nat×Nat}{nv:Obj}{sv:ByteArray×DR×Dn}{wd ve:Type}{wf:DR}{H:Dn}
def Rc(a:IT):ByteArray×Nat:=(a.1.1,a.2)
def KO(a:DD):ByteArray×Av×Ex:=(a.1.1,a.2.1,a.2.2)
def fgX{a:Type}(b:Pr a):Except (Nat×Nat) a:=match b with|.ok (x,_)=>.ok x|P e=>P e
def exM{a b:Type}(c:a->b)(d:Except (Nat×Nat) a):Except (Nat×Nat) b:=match d with|.ok x=>.ok (c x)|P e=>P e
def mlT(a:List IT×List DD):DR×Dn:=(a.1.map Rc,a.2.map KO)
theorem Kc(a:ByteArray):∀h l g (d:List DD) p,l.map (·.1)=Ao (g.map Rc) (d.map KO)->exM mlT (fgX (KW a h l g d p))=fgX (CI a h (g.map Rc) (d.map KO) p)
 |0,_,_,_,_,_=>rfl
 |h+1,l,g,d,p,hG=>by
  rw[KW,CI];by_cases j:Ag a p=Ax
  ·have e:¬Ag a p=Ae:=λb=>by rw[j]at b;exact absurd b (by decide)
   rw[if_pos j,if_neg e,if_pos j];unfold pG EB;by_cases i:Ag a (AC a p)=D9/\d.map KO=[]
   ·have f:=Aa4.1 i.2;subst f;rw[if_pos i,if_pos ⟨i.1,by simp⟩];unfold KX;rw[hG];unfold Cq EZ;match AV a (AC a (AC a p)) with
    |P b=>rfl
    |.ok (x,q)=>
     simp only[Ai];by_cases c:A3 x.1 (Ao (g.map Rc) (List.map KO [])) 0=true
     ·rw[if_pos c,if_pos c];rfl
     ·rw[if_neg c,if_neg c];simp[Ai];match Bt a 20 q with
      |P b=>rfl
      |.ok (t,q2)=>
       simp[Ai];match Al a Ae q2 with
       |P b=>rfl
       |.ok ((),q3)=>
        simp[Ai,GJ];rw[Kc a h _ _ _ q3 (by unfold Ao;unfold Ao at hG;simp at hG ⊢;rw[hG];exact⟨rfl,rfl⟩)];simp[Rc]
   ·rw[if_neg i,if_neg (λm=>i ⟨m.1,by simpa using m.2⟩)];by_cases f:Ag a (AC a p)=SN
    ·rw[if_pos f];unfold Al;rw[if_pos (show Ag a (AC a p)=ZI from f)];simp[Ai];unfold EC GP;rw[hG];unfold Cq EZ;match AV a (AC a (AC a p)) with
     |P b=>rfl
     |.ok (x,q)=>
      simp[Ai];by_cases c:A3 x.1 (Ao (g.map Rc) (d.map KO)) 0=true
      ·rw[if_pos c,if_pos c];rfl
      ·rw[if_neg c,if_neg c];simp[Ai];match Be a q with
       |P b=>rfl
       |.ok (ns,q2)=>
        simp[Ai];match pE a 30 q2 with
        |P b=>rfl
        |.ok (b,q3)=>
         simp[Ai];unfold Al;by_cases n:Ag a q3=Ae
         ·rw[if_pos n];simp[Ai,GJ];rw[Kc a h _ _ _ _ (by unfold Ao;unfold Ao at hG;simp at hG ⊢;rw[hG];simp[KO])];simp[KO]
         ·rw[if_neg n];rfl
    ·rw[if_neg f];unfold Al;rw[if_neg (show ¬Ag a (AC a p)=ZI from f)];rfl
  ·rw[if_neg j,if_neg j];unfold BA Al;by_cases e:Ag a p=Ae
   ·rw[if_pos e,if_pos e];simp[Ai];unfold BA Al;by_cases k:Ag a (AC a p)=⟨#[]⟩
    ·rw[if_pos k,if_pos k];rfl
    ·rw[if_neg k,if_neg k];rfl
   ·rw[if_neg e,if_neg e];rfl
def PI(a:ByteArray×List IT×List DD):ByteArray×DR×Dn:=(a.1,a.2.1.map Rc,a.2.2.map KO)
theorem FZ(c:ByteArray)(d:Nat):exM PI (fgX (DP c d))=fgX (Bo c d):=by
 unfold DP Bo BA;match h1:Al c Ax d with
 |P e=>rfl
 |.ok ((),q1)=>
  simp[Ai];unfold BA;match h2:Al c Gv q1 with
  |P e=>rfl
  |.ok ((),q2)=>
   simp[Ai];unfold BA Cq;match h3:AV c q2 with
   |P e=>simp[Ai,h3];rfl
   |.ok (x,q3)=>
    simp[Ai,h3];rw[if_neg nofun];simp[Ai];have:=Kc c (c.size+1) [] [] [] q3 rfl;rw[Aez,Aez]at this;match h4:KW c (c.size+1) [] [] [] q3,h5:CI c (c.size+1) [] [] q3 with
    |P e,P e'=>rw[h4,h5]at this;cases this;rfl
    |P e,.ok y=>rw[h4,h5]at this;cases this
    |.ok y,P e=>rw[h4,h5]at this;cases this
    |.ok (y,a),.ok (y',b)=>
     rw[h4,h5]at this;have f:mlT y=y':=by cases this;rfl
     subst f;rfl
theorem WT(a:CN (w+1) N):(C5 N).length<=10000:=by
 obtain⟨⟨b,c,-⟩,-⟩:=a;cases N<;>simp[C5,Bd,DJ]at b c ⊢<;>omega
theorem SG{Gn:Av}{d:Nat}{ao:Nat}(aa:QY n p w o m Gn nt)(ag:B8 p w (W L ao x) nq)(ay:nq.length<=100000)(ax:Gn.length<=100000):
 Adg Acs 97 #[J (some ⟨w,0,none⟩),Z 115 (T #[.string s,V C (b:Int)]),W L ao x] p λl q=>Og w m o p (IC nt (gE (P5 Gn) (d+1) (nq.map (·.1)) (.name w2 s b))) l q:=by
 obtain⟨ae,ad,rfl,-⟩:=aa.g.cap;have ai:=VT;have ah:=QG;have a5:=aa.ls.lt;have Y:Below p.heap.size p (p.alloc (Adi #[.string s,V C (b:Int)] 115)).drew:=Ay bA;have M:=hid (aa.cJ Y);have G:(p.alloc (Adi #[.string s,V C (b:Int)] 115)).drew.cell? ⟨p.heap.size,0,none⟩=some (.string s):=by simp
 have af:(p.alloc (Adi #[.string s,V C (b:Int)] 115)).drew.cell? ⟨p.heap.size,1,none⟩=some (V C (b:Int)):=by simp
 have E:=M.out.ls.c0;have I:=hid (Ht nq _ s _ ay (ag.cJ Y).nm);have U:=hid (λak (t:Below (p.alloc (Adi #[.string s,V C (b:Int)] 115)).drew.heap.size (p.alloc (Adi #[.string s,V C (b:Int)] 115)).drew ak)=>Ht Gn _ s ak ax (M.out.cJ t).g.nm);have B:=hid Y;have an:gE (P5 Gn) (d+1) (nq.map (·.1)) (.name w2 s b)=if A3 s (nq.map (·.1)) 0=true then [] else if A3 s (Gn.map (·.1)) 0=true then [] else [(4,b)]:=by
  rw[gE];simp only[fN,C5,Ae1,Ad8,P5];rfl
 rw[an];have a3:=hid ag;clear aa ag an Y;cases h1:A3 s (nq.map (·.1)) 0 with
 |true=>
  ·rw[h1]at I;rw[if_pos rfl];clear h1;go_enter Tryz.func97,Tryz.ntmps97;go_upto_region 1 with(fail)
   refine wp_region_held_drew (S:=(λq=>q.cell? ⟨p.heap.size,0,none⟩=some (.string s)/\q.cell? ⟨w,0,none⟩=some (W ae Gn.length ad))) rfl ⟨G,E⟩ (λu=>?_);iterate 5
    refine Sq (v:=?_) [0,1,2,3,4] rfl rfl rfl (by kernel_rfl) (by kernel_rfl) (by kernel_rfl) (λ_ _ _ a=>a) (Ads ⟨by rfl,?_⟩) (by assumption) ?_;rotate_left
    ·intro p c;obtain⟨y,z⟩:=c;(go_simp<;>with_reducible rfl)
    simp only[Act.put,Adn,Ad4,Adz]
   refine wpAnyH_ready (rs:=[5]) (by kernel_rfl) nofun ?_;refine AllReadyH.cons rfl (λr f=>?_) AllReadyH.nil;go_simp;go_wp2_with (first
    |(go_at_call 93;refine I.out.mono ?_;rintro l ar ⟨rfl,e⟩;have k0:=Aa e G;have ab:=Aa e E;have ac:=Aa e af;have g:=hid e;clear e))
   refine f.out _ _ ?_ (λu=>?_)
   ·grind
   clear f r;iterate 3
    refine Sq (v:=?_) [6,7,8] rfl rfl rfl (by kernel_rfl) (by kernel_rfl) (by kernel_rfl) (λ_ _ _ a=>a) (Ads ⟨by rfl,?_⟩) (by assumption) ?_;rotate_left
    ·intro p c;obtain⟨y,z⟩:=c;(go_simp<;>with_reducible rfl)
    simp only[Act.put,Adn,Ad4,Adz]
   iterate 8
    refine Sq (v:=Aet) [9,10,11,12,13,14,15,16] rfl rfl rfl (by kernel_rfl) (by kernel_rfl) (by kernel_rfl) (λ_ _ _ a=>a) (Ad7 ⟨by rfl,rfl⟩) (by assumption) ?_;simp only[Act.put,Adn,Ad4,Adz]
   refine AQ (i:=17) (d:=32) (v:=?_) rfl rfl (by kernel_rfl) rfl (by kernel_rfl) (λ_ _ _ a=>a) (Ads ⟨rfl,?_⟩) u ?_;rotate_left
   ·intro p c;obtain⟨y,z⟩:=c;(go_simp<;>with_reducible rfl)
   simp only[Act.put,Adn,Ad4,Adz];refine wpAnyH_done rfl ?_ _;go_wp2_with (first
    |(go_at_call 271;refine(DF s (b:Int) _).mono ?_;intro l O j;have K:=hid j;obtain⟨aq,ap,rfl⟩:=j.slice;clear j))
   clear ai ah;go_loopw [41] (λN wr=>N=V C 0/\wr=O) (λ_ _=>0)
   case atStart=>simp
   case round=>
    obtain⟨rfl,k⟩:=hrel;replace k:=k.symm
    subst k;go_wp2;refine bE ?_;have D:=K.out.1;have t:=g.out.trans (D.mono g.out.size);exact⟨rfl,EF.cI (B.out.trans (t.mono B.out.size)),(M.out.cJ t).ls⟩
 |false=>
  rw[h1]at I;rw[if_neg nofun];clear h1;cases h2:A3 s (Gn.map (·.1)) 0 with
  |true=>
   rw[h2]at U;rw[if_pos rfl];clear h2;go_enter Tryz.func97,Tryz.ntmps97;go_upto_region 1 with(fail)
   refine wp_region_held_drew (S:=(λq=>q.cell? ⟨p.heap.size,0,none⟩=some (.string s)/\q.cell? ⟨w,0,none⟩=some (W ae Gn.length ad))) rfl ⟨G,E⟩ (λu=>?_);iterate 5
    refine Sq (v:=?_) [0,1,2,3,4] rfl rfl rfl (by kernel_rfl) (by kernel_rfl) (by kernel_rfl) (λ_ _ _ a=>a) (Ads ⟨by rfl,?_⟩) (by assumption) ?_;rotate_left
    ·intro p c;obtain⟨y,z⟩:=c;(go_simp<;>with_reducible rfl)
    simp only[Act.put,Adn,Ad4,Adz]
   refine wpAnyH_ready (rs:=[5]) (by kernel_rfl) nofun ?_;refine AllReadyH.cons rfl (λr f=>?_) AllReadyH.nil;go_simp;go_wp2_with (first
    |(go_at_call 93;refine I.out.mono ?_;rintro l ar ⟨rfl,e⟩;have k0:=Aa e G;have ab:=Aa e E;have ac:=Aa e af;have g:=hid e;clear e))
   refine f.out _ _ ?_ (λu=>?_)
   ·grind
   clear f r;iterate 9
    refine Sq (v:=?_) [6,7,8,9,10,11,12,13,14] rfl rfl rfl (by kernel_rfl) (by kernel_rfl) (by kernel_rfl) (λ_ _ _ a=>a) (Ads ⟨by rfl,?_⟩) (by assumption) ?_;rotate_left
    ·intro p c;obtain⟨y,z⟩:=c;(go_simp<;>with_reducible rfl)
    simp only[Act.put,Adn,Ad4,Adz]
   refine wpAnyH_ready (rs:=[15]) (by kernel_rfl) nofun ?_;refine AllReadyH.cons rfl (λr f=>?_) AllReadyH.nil;go_simp;go_wp2_with (first
    |(go_at_call 93;refine(U.out _ g.out).mono ?_;rintro l a2 ⟨rfl,h⟩;have az:=Aa h k0;have a0:=Aa h ab;have a1:=Aa h ac;have H:=hid h;clear h))
   refine f.out _ _ ?_ (λu=>?_)
   ·grind
   clear f r;iterate 2
    refine Sq (v:=?_) [16,17] rfl rfl rfl (by kernel_rfl) (by kernel_rfl) (by kernel_rfl) (λ_ _ _ a=>a) (Ads ⟨by rfl,?_⟩) (by assumption) ?_;rotate_left
    ·intro p c;obtain⟨y,z⟩:=c;(go_simp<;>with_reducible rfl)
    simp only[Act.put,Adn,Ad4,Adz]
   refine wpAnyH_done rfl ?_ _;go_wp2_with (first
    |(go_at_call 271;refine(DF s (b:Int) _).mono ?_;intro l O j;have K:=hid j;obtain⟨aq,ap,rfl⟩:=j.slice;clear j))
   clear ai ah;go_loopw [41] (λN wr=>N=V C 0/\wr=O) (λ_ _=>0)
   case atStart=>simp
   case round=>
    obtain⟨rfl,k⟩:=hrel;replace k:=k.symm
    subst k;go_wp2;refine bE ?_;have D:=K.out.1;have t:=(g.out.trans (H.out.mono g.out.size)).trans (D.mono (Ac5 g.out.size H.out.size));exact⟨rfl,EF.cI (B.out.trans (t.mono B.out.size)),(M.out.cJ t).ls⟩
  |false=>
   rw[h2]at U;rw[if_neg nofun];clear h2;go_enter Tryz.func97,Tryz.ntmps97;go_upto_region 1 with(fail)
   refine wp_region_held_drew (S:=(λq=>q.cell? ⟨p.heap.size,0,none⟩=some (.string s)/\q.cell? ⟨w,0,none⟩=some (W ae Gn.length ad))) rfl ⟨G,E⟩ (λu=>?_);iterate 5
    refine Sq (v:=?_) [0,1,2,3,4] rfl rfl rfl (by kernel_rfl) (by kernel_rfl) (by kernel_rfl) (λ_ _ _ a=>a) (Ads ⟨by rfl,?_⟩) (by assumption) ?_;rotate_left
    ·intro p c;obtain⟨y,z⟩:=c;(go_simp<;>with_reducible rfl)
    simp only[Act.put,Adn,Ad4,Adz]
   refine wpAnyH_ready (rs:=[5]) (by kernel_rfl) nofun ?_;refine AllReadyH.cons rfl (λr f=>?_) AllReadyH.nil;go_simp;go_wp2_with (first
    |(go_at_call 93;refine I.out.mono ?_;rintro l ar ⟨rfl,e⟩;have k0:=Aa e G;have ab:=Aa e E;have ac:=Aa e af;have g:=hid e;clear e))
   refine f.out _ _ ?_ (λu=>?_)
   ·grind
   clear f r;iterate 9
    refine Sq (v:=?_) [6,7,8,9,10,11,12,13,14] rfl rfl rfl (by kernel_rfl) (by kernel_rfl) (by kernel_rfl) (λ_ _ _ a=>a) (Ads ⟨by rfl,?_⟩) (by assumption) ?_;rotate_left
    ·intro p c;obtain⟨y,z⟩:=c;(go_simp<;>with_reducible rfl)
    simp only[Act.put,Adn,Ad4,Adz]
   refine wpAnyH_ready (rs:=[15]) (by kernel_rfl) nofun ?_;refine AllReadyH.cons rfl (λr f=>?_) AllReadyH.nil;go_simp;go_wp2_with (first
    |(go_at_call 93;refine(U.out _ g.out).mono ?_;rintro l a2 ⟨rfl,h⟩;have az:=Aa h k0;have a0:=Aa h ab;have a1:=Aa h ac;have H:=hid h;clear h))
   refine f.out _ _ ?_ (λu=>?_)
   ·grind
   clear f r;iterate 2
    refine Sq (v:=?_) [16,17] rfl rfl rfl (by kernel_rfl) (by kernel_rfl) (by kernel_rfl) (λ_ _ _ a=>a) (Ads ⟨by rfl,?_⟩) (by assumption) ?_;rotate_left
    ·intro p c;obtain⟨y,z⟩:=c;(go_simp<;>with_reducible rfl)
    simp only[Act.put,Adn,Ad4,Adz]
   refine wpAnyH_done rfl ?_ _;have aj:=hid ((M.out.cJ g.out).cJ H.out);have a4:=aj.out.pb.sy.nm;have aw:=hid (NA 5 b aj.out.ls);go_wp2_with (first
    |(go_at_call 96;refine aw.out.mono ?_;rintro l a6 ⟨rfl,al,am⟩;have au:=hid al;have av:=hid am;clear al am)
    |(go_at_call 271;refine(DF s (b:Int) _).mono ?_;intro l O j;have K:=hid j;obtain⟨aq,ap,rfl⟩:=j.slice;clear j))
   clear ai ah;go_loopw [41] (λN wr=>N=V C 0/\wr=O) (λ_ _=>0)
   case atStart=>simp
   case round=>
    obtain⟨rfl,k⟩:=hrel;replace k:=k.symm
    subst k;go_wp2;refine bE ?_;have D:=K.out.1;have t:=g.out.trans (H.out.mono g.out.size);exact⟨rfl,((EF.cI (B.out.trans (t.mono B.out.size))).trans au.out).trans (EF.cI D),av.out.below D⟩
theorem S3{Gn:Av}(f:Gn.length<=100000)(h:Vy n w o m Gn v):YN n w o m Gn (v+1):=by
 intro I H t s B y E c d b j p e a k;obtain⟨z,x,rfl,-⟩:=a.cap;rcases Kj d b p e with⟨u,G,D,rfl,rfl⟩|⟨l,r,K,q,rfl,g,i⟩
 ·exact SG c a (by omega) f
 ·exact Te h c d b j l g i a k (WT e)
theorem RW{Gn:Av}:YN n w o m Gn 0:=λ_ _ _ _ _ _ _ _ a=>a.elim
theorem N1{c:Q}{d:Nat}{e:Nat->Addr}{f:X}{Gn:Av}(b:Gn.length<=100000):∀a,Vy c d e f Gn a
 |0=>Q1 RW
 |a+1=>Q1 (S3 b (N1 b a))
theorem Cd(a:Below w n p)(f:w<=v)(e:X):Below w n (p.setCell ⟨v,b,none⟩ e):=
 ⟨a.os,a.tape,a.output,by simpa using a.size,λc d=>by rw[Ac4 _ _ _ _ (show c≠v by omega)];exact a.block c d⟩
structure H4 (a:Q) (c:Nat->Addr) (f e d:X) (wr:Q) (b:X) (Gn:Av):Prop where
 ls:LS wr (a.heap.size+1) b c none
 g:Cu wr (a.heap.size+2) b Gn
 m:V3 wr a.heap.size f e d
 low:Below a.heap.size a wr
theorem LS.gH(b:LS n w m o nt)(c:X):LS (n.setCell ⟨w,0,none⟩ c) w c o nt:=by
 have d:∀a,a≠0->(n.setCell ⟨w,0,none⟩ c).cell? ⟨w,a,none⟩=n.cell? ⟨w,a,none⟩:=λa e=>Acy _ _ _ _ (Au (Aa7 e));exact⟨Ac6 _ _ _ b.c0,by rw[d _ (by omega)];exact b.c1,by rw[d _ (by omega)];exact b.c2,λa=>by rw[Ac3];exact b.f a⟩
theorem H4.next{p:Value}{wr X w2:Q}{Gn:Av}(b:H4 n o p q j wr f Gn)(g:Below wr.heap.size wr X){ob:Obj}(h:(X.alloc ob).grownBy w2 f.ownBlock){e c:Nat}(u:f.ownBlock=some e\/e=(X.alloc ob).heap.size)(y:e<w2.heap.size){x:ByteArray×Nat}(z:w2.ownsRow 0 115 2 (W (some ⟨e,0,none⟩) (Gn.length+1) c) (Gn.length+1) (Gn.flatMap wC++[S x.1,V C (x.2:Int)])):H4 n o p q j (w2.setCell ⟨n.heap.size+1,0,none⟩ (W (some ⟨e,0,none⟩) (Gn.length+1) c)) (W (some ⟨e,0,none⟩) (Gn.length+1) c) (Gn++[x]):=by
 have t:=b.ls.lt;have G:=g.size;have E:=h.size;have H:(X.alloc ob).heap.size=X.heap.size+1:=by simp
 have B:=λa d=>(b.g.rg a (Acw _ (Ah.2 d))).1;have i:∀a,a<wr.heap.size->f.ownBlock≠some a->w2.heap[a]?=wr.heap[a]?:=λa r s=>by
  rw[h.block a (by omega) (λd=>s d.symm),Ad3 _ _ (by omega)];exact g.block a r
 have k:=(b.g.cJ II g).dR II (by omega) trivial h u y z;refine⟨(b.ls.cK (i _ t (λd=>by grind))).gH _,?_,(b.m.cK (i _ (by omega) (λd=>by grind))).cK (Ac4 _ _ _ _ (show n.heap.size≠n.heap.size+1 by omega)),?_⟩
 ·refine AZ.fr II k (by simp) λa v=>Ac4 _ _ _ _ ?_;have:=(k.rg a v).1;grind
 ·refine Cd ?_ (by omega) _;exact⟨h.os.trans (g.os.trans b.low.os),h.tape.trans (g.tape.trans b.low.tape),h.output.trans (g.output.trans b.low.output),by omega,λl w=>by
   have D:=b.low.size;rw[i l (by omega) (λd=>by grind)];exact b.low.block l w⟩
theorem H4.kept{wr:Q}{Gn:Av}(a:H4 n o m q j wr f Gn)(b:Below wr.heap.size wr h){c:Obj}(i:(h.alloc c).grownBy w0 f.ownBlock):LS w0 (n.heap.size+1) f o none:=by
 have e:=a.ls.lt;have k:=b.size;have l:(h.alloc c).heap.size=h.heap.size+1:=by simp
 refine a.ls.cK ?_;rw[i.block _ (by omega) (λd=>by have:=(a.g.rg _ (Acw _ (Ah.2 d.symm))).1;omega),Ad3 _ _ (by omega)];exact b.block _ e
def luV(b:Nat->Addr):OO->X
 |none=>.nilIface
 |some (k,a)=>Ll b k a
def dF(Gn:Av)(a:(ByteArray×Nat)×Av×Ex):List (Nat×Nat):=fK 0 a.2.1++gE (P5 Gn) 31 (a.2.1.map (·.1)) a.2.2
def Ia(b:List IT)(a:List DD):Av:=b.map (·.1)++a.map (·.1)
theorem Wr(g:Jl n w (W L v b) G){a:Nat}(h:a<G.length):∃c,L=some ⟨c,0,none⟩/\n.cell? ⟨c,a*3,none⟩=some (.string G[a].1.1)/\n.cell? ⟨c,a*3+1,none⟩=some (V C (G[a].1.2:Int))/\n.cell? ⟨c,a*3+2,none⟩=some (V C (G[a].2:Int)):=by
 obtain⟨c,j,i,-,-⟩:=g.own.form (by omega);have f:=g.own;cases i;have e:=EX (λd:IT=>(S d.1.1)) (λd=>V C d.1.2) (λd=>V C d.2) G a h;refine⟨c,rfl,?_,?_,?_⟩
 ·rw[f.cellAt (a*3) (by omega)];exact e.1
 ·rw[f.cellAt (a*3+1) (by omega)];exact e.2.1
 ·rw[f.cellAt (a*3+2) (by omega)];exact e.2.2
theorem QK(g:Ie n w (W L v b) D){a:Nat}(h:a<D.length):∃c,L=some ⟨c,0,none⟩/\n.cell? ⟨c,a*4,none⟩=some (.string D[a].1.1)/\n.cell? ⟨c,a*4+1,none⟩=some (V C (D[a].1.2:Int))/\n.cell? ⟨c,a*4+2,none⟩=some D[a].2.1/\n.cell? ⟨c,a*4+3,none⟩=some D[a].2.2.2.1:=by
 obtain⟨c,j,i,-,-⟩:=g.own.form (by omega);have f:=g.own;cases i;have e:=C7 (λd:DT=>(S d.1.1)) (λd=>V C d.1.2) (λd=>d.2.1) (λd=>d.2.2.2.1) D a h;refine⟨c,rfl,?_,?_,?_,?_⟩
 ·rw[f.cellAt (a*4) (by omega)];exact e.1
 ·rw[f.cellAt (a*4+1) (by omega)];exact e.2.1
 ·rw[f.cellAt (a*4+2) (by omega)];exact e.2.2.1
 ·rw[f.cellAt (a*4+3) (by omega)];exact e.2.2.2
theorem Qm(e:Ie n w m D){a:Nat}(f:a<D.length):∃i h g c d,D[a].2.1=W i h g/\D[a].2.2.2.1=Z c d:=by
 have b:=e.it _ (Ac8 f);let ⟨o,j,k⟩:=b.1.slice
 let ⟨p,q,l⟩:=PX.dd b.2
 grind
structure Ul (a:Q) (b:Nat->Addr) (f e c:X) (wr:Q) (d:X) (Gn:Av) (g:OO):Prop where
 lk:QY a wr (a.heap.size+1) b d Gn g
 m:V3 wr a.heap.size f e c
theorem H4.df{b:X}{wr:Q}{Gn:Av}(a:H4 n o b q j wr f Gn)(d:SY n o):Ul n o b q j wr f Gn none:=
 ⟨⟨⟨d,a.low,by omega⟩,a.ls,B8.cS a.g λc=>by have:=(a.g.rg _ (Acw _ (Ah.2 c))).1;omega⟩,a.m⟩
theorem Ul.step{u:X}{wr:Q}{Gn:Av}(a:Ul n o u q j wr f Gn nt)(z:Gn.length<=100000)(i:Ie n w j D)(p:v<D.length)(t:BQ 31 D[v].2.2.2.2.1/\CN 31 D[v].2.2.2.2.1/\D[v].2.2.1.length<=2000)(g:Obj):
 Adg Acs 60 #[J (some ⟨n.heap.size+1,0,none⟩),T #[D[v].2.2.2.1,D[v].2.1],W none 0 0] (wr.alloc g) λh x=>h=F (R #[])/\Ul n o u q j x f Gn (IC nt (dF Gn (D[v].1,D[v].2.2.1,D[v].2.2.2.2.1))):=by
 have b:Below wr.heap.size wr (wr.alloc g):=bA;have r:=a.lk.pb.b;have l:=r.trans (b.mono r.size);have s:=(i.cJ B5 l).it _ (Ac8 p);have e:=λc E=>(i.rg c (Acx _ (Ada.2 ⟨_,Ac8 p,E⟩))).2;have G:=l.size;refine(N1 z 31 (wr.alloc g) D[v].2.2.2.1 D[v].2.2.2.2.1 D[v].2.2.2.2.2 D[v].2.1 D[v].2.2.1 (W none 0 0) [] nt (a.lk.cJ b) s.2 (λd=>by have:=e _ (Acx _ d);omega) (λc d=>by have:=e c (Acx _ d);omega) t.1 t.2.1 (B8.cS s.1 λy=>by have:=e _ (Acw _ (Ah.2 y));omega) (B8.nil _ _) (by grind)).mono ?_;rintro h x ⟨rfl,k,B⟩;exact⟨rfl,(a.lk.cJ b).ef k B,(a.m.cJ b).ef k (by omega)⟩
theorem Pt{nm:ByteArray}{ba:X}(aS:SY n o)(a0:Jl n w ba G)(ay:Ie n w q D)(b2:G.length<=2000)(b1:D.length<=2000)(aY:∀x∈D,BQ 31 x.2.2.2.2.1/\CN 31 x.2.2.2.2.1/\x.2.2.1.length<=2000):
 Adg Acs 28 #[T #[S nm,ba,q]] n λaP bw=>aP=F (luV o (IC none ((D.map GZ).flatMap (dF (Ia G (D.map GZ))))))/\Below n.heap.size n bw:=by
 obtain⟨z,s,rfl⟩:=a0.slice;obtain⟨y,l,rfl⟩:=ay.slice;have bh:=hid a0;have Y:=hid ay;have bk:=hid aS;have bm:=hid aY;clear a0 ay aS aY;obtain⟨aZ,a5,aU⟩:=Adb.1 Tryz.dS;simp only[Aeb]at aU;obtain⟨a2,a3,a4⟩:=aU;obtain⟨av,bq⟩:∃av,av=W z G.length s:=⟨_,rfl⟩;obtain⟨au,bp⟩:∃au,au=W y D.length l:=⟨_,rfl⟩;have bj:Hid (H4 n o (S nm) (W z G.length s) (W y D.length l) ((n.alloc (.cells #[S nm,W z G.length s,W y D.length l] 72)).alloc (.cells #[W none 0 0,.nilIface,V C 0] 158)) (W none 0 0) []):=by
  refine⟨⟨?_,?_,?_,λbs=>?_⟩,AZ.nil _ _,⟨?_,?_,?_,λbs=>?_⟩,bA.alloc (by simp) _⟩<;>simp[H6,Il]
 clear bq bp av au;go_enter Tryz.func28,Tryz.ntmps28;go_wp2;go_loopw [13] (λk wr=>∃(a:Nat) (f:Option Addr) (e:Nat),a<=G.length/\k=V C (a:Int)/\Hid (H4 n o (S nm) (W z G.length s) (W y D.length l) wr (W f a e) ((G.take a).map (·.1)))) (λk _=>G.length-(intOf k).toNat)
 case atStart=>grind
 case round=>
  clear bj;obtain⟨a,f,e,aV,rfl,d⟩:=hrel;rename Q=>wr
  by_cases i:a<G.length
  ·have aQ:(0:Int)<=(a:Int):=by omega
   have aR:(a:Int)<(G.length:Int):=by omega
   obtain⟨ar,rfl,N,O,U⟩:=Wr (bh.out.cJ Ky d.out.low) i;obtain⟨am,H,I,an⟩:=d.out.ls;have B:((G.take a).map (·.1)).length=a:=by simp;omega
   have ap:Hid (wr.ownsRow 0 115 2 (W f a e) a (((G.take a).map (·.1)).flatMap wC)):=by
    have:=d.out.g.own;rw[B]at this;exact this
   have v:Hid (∀(g:Q) (u K:Obj) (h j:Nat),((wr.alloc u).alloc K).grownBy g (W f a e).ownBlock->((W f a e).ownBlock=some h\/h=((wr.alloc u).alloc K).heap.size)->h<g.heap.size->g.ownsRow 0 115 2 (W (some ⟨h,0,none⟩) (a+1) j) (a+1) (((G.take a).map (·.1)).flatMap wC++[.string G[a].1.1,V C (G[a].1.2:Int)])->LS g (n.heap.size+1) (W f a e) o none/\H4 n o (S nm) (W (some ⟨ar,0,none⟩) G.length s) (W y D.length l) (g.setCell ⟨n.heap.size+1,0,none⟩ (W (some ⟨h,0,none⟩) (a+1) j)) (W (some ⟨h,0,none⟩) (a+1) j) ((G.take (a+1)).map (·.1))):=by
    intro g u K h j ag p a6 E;have af:Below wr.heap.size wr (wr.alloc u):=bA;refine⟨d.out.kept af ag,?_⟩;have:=d.out.next af ag p a6 (x:=G[a].1) (c:=j) (by grind);rw[B]at this;rw[Ade i,Adq];exact this
   obtain⟨aH,ak⟩:∃aH,G[a]=aH:=⟨_,rfl⟩;obtain⟨⟨t,ia⟩,br⟩:=aH;rw[ak]at N O U v;simp only at N O U v;have bb:=λaG=>alloc_old wr aG _ _ _ am;clear ak B H I an;generalize ((G.take a).map (·.1)).flatMap wC=XS at*;go_wp2_with (first
    |(at_builtin;refine Adl _ rfl (.tmp 18) (.tmp 21) 100 rfl 0 115 aZ _ 2 24 Tryz.underlying100 a5 a2 a3 a4 rfl (by omega) (W f a e) a XS rfl ((ap.out.alloc _).alloc _) ⟨wr.heap.size+1,0,none⟩ 1 1 [S t,V C (ia:Int)] rfl rfl (by simpa using Adu (Adp (wr.alloc (Adi #[S t,V C (ia:Int),V C (br:Int)] 160)) (Adi #[S t,V C (ia:Int)] 115))) (by intro bv aj;simp at aj;rcases aj with rfl|rfl<;>rfl) (by omega) (by unfold Aed;omega) (by omega) (Ac0 _) _ rfl ?_;intro ax a9 g E ah p ai;have r:=v.out g _ _ ax a9 ah p ai E;obtain⟨⟨bt,a7,a8,al⟩,r⟩:=r;have M:=hid r;have bu:=al 0;clear E ah p ai r al a7 a8))
   exact⟨⟨a+1,_,_,by omega,by go_num,M.out⟩,by simp[intOf];omega⟩
  ·obtain rfl:a=G.length:=by omega
   have aT:¬(G.length:Int)<(G.length:Int):=by omega
   obtain⟨aB,aC,aD,aE⟩:=d.out.m;clear aE;have aL:Hid (H4 n o (S nm) (W z G.length s) (W y D.length l) wr (W f (G.length+0) e) (G.map (·.1)++(D.take 0).map (·.1))):=by
    grind
   clear d;go_wp2;clear aB aC aD;go_loopw [28] (λk wr=>∃(a:Nat) (f:Option Addr) (e:Nat),a<=D.length/\k=V C (a:Int)/\Hid (H4 n o (S nm) (W z G.length s) (W y D.length l) wr (W f (G.length+a) e) (G.map (·.1)++(D.take a).map (·.1)))) (λk _=>D.length-(intOf k).toNat)
   case atStart=>exact⟨0,f,e,Ac0 _,rfl,aL.out⟩
   case round=>
    clear aL;obtain⟨a,f,e,aV,rfl,d⟩:=hrel;rename Q=>wr
    by_cases i:a<D.length
    ·have aQ:(0:Int)<=(a:Int):=by omega
     have aR:(a:Int)<(D.length:Int):=by omega
     obtain⟨ar,rfl,N,O,U,aw⟩:=QK (Y.out.cJ B5 d.out.low) i;obtain⟨bf,be,bc,aN,aO,ac,ad⟩:=Qm Y.out i;rw[ac]at U;rw[ad]at aw;obtain⟨am,H,I,an⟩:=d.out.ls;have B:(G.map (·.1)++(D.take a).map (·.1)).length=G.length+a:=by simp;omega
     have ap:Hid (wr.ownsRow 0 115 2 (W f (G.length+a) e) (G.length+a) ((G.map (·.1)++(D.take a).map (·.1)).flatMap wC)):=by
      have:=d.out.g.own;rw[B]at this;exact this
     have v:Hid (∀(g:Q) (u K:Obj) (h j:Nat),((wr.alloc u).alloc K).grownBy g (W f (G.length+a) e).ownBlock->((W f (G.length+a) e).ownBlock=some h\/h=((wr.alloc u).alloc K).heap.size)->h<g.heap.size->g.ownsRow 0 115 2 (W (some ⟨h,0,none⟩) (G.length+a+1) j) (G.length+a+1) ((G.map (·.1)++(D.take a).map (·.1)).flatMap wC++[.string D[a].1.1,V C (D[a].1.2:Int)])->LS g (n.heap.size+1) (W f (G.length+a) e) o none/\H4 n o (S nm) (W z G.length s) (W (some ⟨ar,0,none⟩) D.length l) (g.setCell ⟨n.heap.size+1,0,none⟩ (W (some ⟨h,0,none⟩) (G.length+a+1) j)) (W (some ⟨h,0,none⟩) (G.length+a+1) j) (G.map (·.1)++(D.take (a+1)).map (·.1))):=by
      intro g u K h j ag p a6 E;have af:Below wr.heap.size wr (wr.alloc u):=bA;refine⟨d.out.kept af ag,?_⟩;have:=d.out.next af ag p a6 (x:=D[a].1) (c:=j) (by grind);rw[B]at this;rw[Ade i,Adq,<-Aem];exact this
     obtain⟨t,ia,ak⟩:∃t ia,D[a].1=(t,ia):=⟨_,_,rfl⟩;rw[ak]at N O v;simp only at N O v;have bb:=λaG=>alloc_old wr aG _ _ _ am;clear ak B H I an ac ad;generalize (G.map (·.1)++(D.take a).map (·.1)).flatMap wC=XS at*;obtain⟨ab,ae⟩:∃ab,ab=G.length+a:=⟨_,rfl⟩;rw[<-ae]at am bb ap v;have b0:ab<=4000:=by omega
     have bi:=hid ae;clear ae;go_wp2_with (first
      |(at_builtin;refine Adl _ rfl (.tmp 33) (.tmp 36) 100 rfl 0 115 aZ _ 2 24 Tryz.underlying100 a5 a2 a3 a4 rfl (by omega) (W f ab e) ab XS rfl ((ap.out.alloc _).alloc _) ⟨wr.heap.size+1,0,none⟩ 1 1 [S t,V C (ia:Int)] rfl rfl (by simpa using Adu (Adp (wr.alloc (Adi #[S t,V C (ia:Int),W bf be bc,Z aN aO] 119)) (Adi #[S t,V C (ia:Int)] 115))) (by intro bv aj;simp at aj;rcases aj with rfl|rfl<;>rfl) (by omega) (by unfold Aed;omega) (by omega) (Ac0 _) _ rfl ?_;intro ax a9 g E ah p ai;have r:=v.out g _ _ ax a9 ah p ai E;obtain⟨⟨bt,a7,a8,al⟩,r⟩:=r;have M:=hid r;have bu:=al 0;clear E ah p ai r al a7 a8))
     have ae:=bi.out;subst ae;exact⟨⟨a+1,_,_,by omega,by go_num,M.out⟩,by simp[intOf];omega⟩
    ·obtain rfl:a=D.length:=by omega
     have aT:¬(D.length:Int)<(D.length:Int):=by omega
     obtain⟨aB,aC,aD,aE⟩:=d.out.m;clear aE;have aW:G.map (·.1)++(D.take D.length).map (·.1)=Ia G (D.map GZ):=by
      unfold Ia;rw[Ad9,Ae4];rfl
     have aJ:Hid ((Ia G (D.map GZ)).length<=100000):=by show _<=_;unfold Ia;simp;omega
     have aa:=hid (d.out.df bk.out);rw[aW]at aa;clear aW d a5 a2 a3 a4;obtain⟨L,az⟩:∃bg,Ia G (D.map GZ)=bg:=⟨_,rfl⟩;rw[az]at aJ aa;have aK:=hid az;clear az;go_wp2;clear aB aC aD;generalize W f (G.length+D.length) e=GV at aa;go_loopw [43] (λk wr=>∃a:Nat,a<=D.length/\k=V C (a:Int)/\Hid (Ul n o (S nm) (W z G.length s) (W y D.length l) wr GV L (IC none (((D.map GZ).take a).flatMap (dF L))))) (λk _=>D.length-(intOf k).toNat)
     case atStart=>exact⟨0,Ac0 _,rfl,aa.out⟩
     case round=>
      clear aa;obtain⟨a,aV,rfl,d⟩:=hrel;rename Q=>wr
      by_cases i:a<D.length
      ·have aQ:(0:Int)<=(a:Int):=by omega
       have aR:(a:Int)<(D.length:Int):=by omega
       obtain⟨ar,rfl,N,O,U,aw⟩:=QK (Y.out.cJ B5 d.out.lk.pb.b) i;obtain⟨bf,be,bc,aN,aO,ac,ad⟩:=Qm Y.out i;have aq:=hid (d.out.step aJ.out Y.out i (bm.out _ (Ac8 i)));rw[ac]at U aq;rw[ad]at aw aq;have M:Hid (IC (IC none (((D.map GZ).take a).flatMap (dF L))) (dF L (D[a].1,D[a].2.2.1,D[a].2.2.2.2.1))=IC none (((D.map GZ).take (a+1)).flatMap (dF L))):=by
        show _=_;rw[<-I8,Ade (by simpa using i),Ado,Adh,Ae1,Ad8,Aep]
       rw[M.out]at aq;clear ac ad M;go_wp2_with (first
        |(go_at_call 60;refine(aq.out _).mono ?_;rintro bz g ⟨rfl,aX⟩;have bl:=hid aX;clear aX))
       exact⟨⟨a+1,by omega,by go_num,bl.out⟩,by simp[intOf];omega⟩
      ·obtain rfl:a=D.length:=by omega
       have aT:¬(D.length:Int)<(D.length:Int):=by omega
       have ao:=d.out;rw[show(D.map GZ).take D.length=D.map GZ by rw[Aav (by simp)]]at ao;have aI:=hid ao.lk.pb.b;obtain⟨am,H,I,an⟩:=ao.lk.ls;clear ao d an;obtain⟨bo,a1⟩:∃bn,IC none ((D.map GZ).flatMap (dF L))=bn:=⟨_,rfl⟩;rw[a1]at H I;have aM:=hid a1;clear a1;rcases bo with _|⟨c,bx⟩
       ·simp only[H6,Il]at H I;go_wp2;go_ret;rw[aK.out,aM.out];exact⟨rfl,aI.out⟩
       ·simp only[H6,Il]at H I;go_wp2_with (first
         |(go_at_call 25;refine(QZ _ _ _ _).mono ?_;rintro aP b3 ⟨rfl,rfl⟩))
        go_ret;rw[aK.out,aM.out];exact⟨rfl,aI.out⟩
def OkD(a:DD):Prop:=BQ 31 a.2.2/\CN 31 a.2.2/\a.2.1.length<=2000
def dB(a:DD):List Nat:=a.2.1.map (·.2)++fB 31 a.2.2
def dU(a:DD):List Nat:=fU 31 a.2.2
structure XH (b:Nat) (c:List IT) (a:List DD):Prop where
 len:c.length+a.length<=b
 ok:∀x∈a,OkD x
 ap:Ap (a.flatMap dB) (a.flatMap dU) 0 b
theorem Xe(h:s.size<=2000)(n:w<=s.size)(a:EC s l w=.ok (xo,v)):OkD xo/\Ap (dB xo) (dU xo) w v:=by
 let ⟨t,j,k,a⟩:=Ac a
 have i:=IQ w n t j k;let ⟨p,b,g,a⟩:=Ac a
 have f:=BU j i.2 p b g;let ⟨d,c,e,a⟩:=Ac a
 have o:=Dq s 30 b f.2 d c e;let ⟨r,q,m,a⟩:=Ac a
 have u:=Aj (by decide) c o.2 r q m;cases a;refine⟨⟨XT h 30 b d c f.2 e,X9 h 30 b d c f.2 e,LH h i.2 g⟩,?_⟩;exact((Nj i.2 g).dM (Z0 s 30 b d c f.2 e) (by omega) (by omega)).sub (λ_ a=>a) (λ_ a=>Acx _ a) (by omega) (by omega)
theorem Pl{c:ByteArray}(q:c.size<=2000):∀(h:Nat) (m:Av) (r:List IT) (n:List DD) (g:Nat) (e:List IT×List DD) (j:Nat),g<=c.size->XH g r n->KW c h m r n g=.ok (e,j)->XH c.size e.1 e.2
 |0,_,_,_,_,_,_,_,_,a=>by rw[KW]at a;cases a
 |h+1,m,r,n,g,e,j,hp,hi,a=>by
  rw[KW]at a;split at a
  ·rename_i t
   have k0:=Dw hp (by rw[t];decide);let ⟨D,k,b,a⟩:=Ac a
   have u:=XR k0.2 b;match D,b,a with
   |.inl z,b,a=>
    refine Pl q h _ _ _ k e j u.2 ⟨?_,hi.ok,hi.ap.sub (λ_ a=>a) (λ_ a=>a) .refl (by omega)⟩ a;have:=hi.len;simp;omega
   |.inr d,b,a=>
    have p:∃i,i<=c.size/\AC c g<=i/\EC c m i=.ok (d,k):=by
     unfold pG at b;split at b
     ·let ⟨z,v,_,o⟩:=Ac b
      cases o
     ·let ⟨w,v,o,x⟩:=Ac b
      have H:=Aj (by decide) _ k0.2 w v o;let ⟨l,K,E,G⟩:=Ac x
      grind
    let ⟨i,B,I,p⟩:=p
    let ⟨t,y⟩:=Xe q B p
    refine Pl q h _ _ _ k e j u.2 ⟨?_,λl f=>?_,?_⟩ a
    ·have:=hi.len;simp;omega
    ·rcases Acz.1 f with s|s
     ·exact hi.ok l s
     grind
    ·rw[Ado,Ado];refine(hi.ap.dM (y.sub (λ_ a=>a) (λ_ a=>a) (by omega) (Acu _)) (Ac0 _) (by omega)).sub (λl f=>?_) (λl f=>?_) .refl .refl
     ·simpa using f
     ·simpa using f
  ·let ⟨w,k,b,a⟩:=Ac a
   cases a;exact⟨Ac5 hi.len hp,hi.ok,hi.ap.sub (λ_ a=>a) (λ_ a=>a) .refl hp⟩
theorem LR(o:s.size<=2000)(n:w<=s.size)(a:DP s w=.ok (vj,v)):XH s.size vj.2.1 vj.2.2:=by
 let ⟨z,d,k,a⟩:=Ac a
 have b:d<=s.size:=by
  let ⟨t,f,g,h⟩:=Ac k
  have b:=Aj (by decide) w n t f g;let ⟨u,r,i,j⟩:=Ac h
  have c:=Aj (by decide) f b.2 u r i;cases j;omega
 let ⟨x,e,l,a⟩:=Ac a
 have c:=IQ d b x e l;let ⟨y,q,m,a⟩:=Ac a
 have:=Pl o (s.size+1) [] [] [] e y q c.2 ⟨Ac0 _,λvj p=>(by cases p),Ap.nil _ _⟩ m;grind
def Ct(b:List IT)(a:List DD):List (Nat×Nat):=a.flatMap (dF (Ia b a))
theorem QD:∀c b,IC (b.map λa=>(Dm a.1,a.2)) c=(Lv b c).map λa=>(Dm a.1,a.2)
 |[],_=>rfl
 |a::r,b=>by
  show IC (IA (b.map λa=>(Dm a.1,a.2)) (Dm a.1) a.2) r=(Lv (Hd b a) r).map _;rw[<-QD r];match b with
  |none=>rfl
  |some y=>
   simp[Option.map_some,IA,Hd];split<;>rfl
def RD(c:ByteArray->Bool)(d:Dn)(a:Nat×Nat):Nat×Nat:=d.foldl (λa b=>FK c 31 (b.2.1.map (·.1)) b.2.2 (Bk a 0 b.2.1)) a
theorem J0(b:ByteArray->Bool):∀d c,(∀a∈d,Yu 31 a.2.2)->RD b d c=IJ c (d.flatMap λa=>fK 0 a.2.1++fE b 31 (a.2.1.map (·.1)) a.2.2)
 |[],_,_=>rfl
 |a::r,c,h=>by
  show RD b r (FK b 31 (a.2.1.map (·.1)) a.2.2 (Bk c 0 a.2.1))=_;rw[J0 b r _ λf e=>h f (Aei _ e),Jd b 31 _ _ _ (h a (Aew ..)),Eb,<-Dg,<-Dg,Adh,Aem]
theorem OZ(b:List IT)(a:List DD):Ao (b.map Rc) (a.map KO)=(Ia b a).map (·.1):=by
 unfold Ao Ia;simp[Rc,KO,Aa3]
theorem P6(g:XH w G vh)(r:Nat):Ya (RD (λm=>A3 m (Ao (G.map Rc) (vh.map KO)) 0) (vh.map KO) (0,r))=Lv none (Ct G vh):=by
 have o:(λm=>A3 m (Ao (G.map Rc) (vh.map KO)) 0)=P5 (Ia G vh):=by
  rw[OZ];rfl
 rw[o,J0 _ _ _ (λb c=>by
  obtain⟨a,f,rfl⟩:=Adj.1 c;exact(λb c a f p=>g.ap.n a (Ada.2 ⟨b,c,Acx _ f⟩) (Ada.2 ⟨b,c,p⟩)) a f)]
 have k:∀a∈(vh.map KO).flatMap (λb=>fK 0 b.2.1++fE (P5 (Ia G vh)) 31 (b.2.1.map (·.1)) b.2.2),(a.1=3/\a.2∈vh.flatMap dB)\/(a.1=4/\a.2∈vh.flatMap dU):=by
  intro a f;let ⟨s,l,e⟩:=Ada.1 f
  obtain⟨b,c,rfl⟩:=Adj.1 l;rcases Acz.1 e with d|d
  ·have:=J2 _ _ a d;exact Ads ⟨this.1,Ada.2 ⟨b,c,Acw _ this.2⟩⟩
  ·rcases Me _ 31 _ _ a d with h|h
   ·exact Ads ⟨h.1,Ada.2 ⟨b,c,Acx _ h.2⟩⟩
   ·exact Ad7 ⟨h.1,Ada.2 ⟨b,c,h.2⟩⟩
 rw[Oy _ _ (λa f=>by rcases k a f with g|g<;>omega)];refine T7 (λa=>?_) (λa f t q i=>?_)
 ·unfold Ct dF;rw[Ada,Ada];constructor
  ·rintro⟨s,l,e⟩;obtain⟨b,c,rfl⟩:=Adj.1 l;refine⟨b,c,?_⟩;rcases Acz.1 e with d|d
   ·exact Acw _ d
   ·exact Acx _ ((L5 _ 31 _ _ a).1 d)
  ·rintro⟨b,c,e⟩;refine⟨KO b,Adj.2 ⟨b,c,rfl⟩,?_⟩;rcases Acz.1 e with d|d
   ·exact Acw _ d
   ·exact Acx _ ((L5 _ 31 _ _ a).2 d)
 ·rcases k a f with j|j<;>rcases k t q with e|e
  ·exact Prod.ext (by omega) i
  ·exact absurd (i▸e.2) (g.ap.n _ j.2)
  ·exact absurd (i▸j.2) (g.ap.n _ e.2)
  ·exact Prod.ext (by omega) i
def BF(a:ByteArray):Except (Nat×Nat) (ByteArray×List IT×List DD):=
 if 2000<a.size then P (1,0) else
  match DP a 0 with
  |P e=>P e
  |.ok (x,_)=>match Lv none (Ct x.2.1 x.2.2) with
   |none=>.ok x
   |some e=>P e
def Pw:X:=T #[S ⟨#[]⟩,W none 0 0,W none 0 0]
def ZU(n:ByteArray)(m:Nat->Addr)(b:Q)(i:Ending)(d:Q):Prop:=Below b.heap.size b d/\match BF n with
 |P (c,a)=>i=F (R #[Pw,Ll m (Dm c) a])
 |.ok (nm,im,df)=>∃j k e h l f g,i=F (R #[T #[S nm,W j k e,W h l f],.nilIface])/\Jl d b.heap.size (W j k e) im/\Ie d b.heap.size (W h l f) g/\g.map GZ=df
theorem TQ(f:OY n b (W (some ⟨w,0,none⟩) (BM s 0).length v) (BM s 0)):PS (n.alloc (.cells #[W (some ⟨w,0,none⟩) (BM s 0).length v,W none 0 0,V C 0] 102)) n.heap.size w s 0 (W none 0 0) 0:=by
 have g:Below n.heap.size n (n.alloc (.cells #[W (some ⟨w,0,none⟩) (BM s 0).length v,W none 0 0,V C 0] 102)):=bA;have q:=f.rg w (Acw _ (Ah.2 rfl));have c:=f.own;have h:(BM s 0).length<=v/\v<=9223372036854775807:=by
  rcases c.2 with⟨a,-⟩|⟨o,l,m,a,-,-,p,j,-⟩
  ·cases a
  ·cases a;unfold Aed at j;omega
 refine⟨⟨0,v,by simp,h.1,h.2,by omega,λd k=>?_⟩,by simp,by simp,λr _=>by simp⟩;have i:=Co (λe:ByteArray×Nat=>(S e.1)) (λe=>V C e.2) (BM s 0) d k;rw[Aey];refine⟨Aa g ?_,Aa g ?_⟩
 ·rw[c.cellAt (d*2) (by omega)];exact i.1
 ·rw[c.cellAt (d*2+1) (by omega)];exact i.2
theorem MX(a:¬2000<s.size)(b:DP s 0=P nd):BF s=P nd:=by unfold BF;rw[if_neg a,b]
theorem Q4(a:¬2000<s.size)(b:DP s 0=.ok (vj,w))(c:Lv none (Ct vj.2.1 vj.2.2)=none):BF s=.ok vj:=by unfold BF;grind
theorem OS(a:¬2000<s.size)(b:DP s 0=.ok (vj,w))(c:Lv none (Ct vj.2.1 vj.2.2)=some nd):BF s=P nd:=by unfold BF;grind
theorem LA(a:2000<s.size):BF s=P (1,0):=by unfold BF;rw[if_pos a]
theorem Hv(c:Below n.heap.size n p)(e:Below p.heap.size p h)(a:EF h.heap.size (h.alloc nv) w0):Below n.heap.size n w0:=by
 have b:=c.trans (e.mono c.size);have g:=b.size;refine⟨a.os.trans b.os,a.tape.trans b.tape,a.output.trans b.output,by have:=a.size;simp at this;omega,λd f=>?_⟩;rw[a.block d (by simp;omega) (by omega),Ad3 _ _ (by omega)];exact b.block d f
theorem ND{s:ByteArray}(aQ:s.size<=2000->∀B aK aL,EO B aK aL o s)(ad:SY n o):Adg Acs 15 #[S s] n λd U=>ZU s o n d U:=by
 obtain⟨t,r⟩:∃t,t=n.alloc (.cells #[S ⟨#[]⟩,W none 0 0,W none 0 0] 72):=⟨_,rfl⟩;have am:Below n.heap.size n t:=by rw[r];exact bA
 have Y:=hid am;have a4:t.heap.size=n.heap.size+1:=by rw[r];simp
 have aw:Hid (V3 t n.heap.size (S ⟨#[]⟩) (W none 0 0) (W none 0 0)):=by
  subst r;exact⟨by simp,by simp,by simp,λbf=>by simp⟩
 have a1:=hid (ad.cJ am);by_cases ap:2000<s.size
 ·have K:Hid (BF s=P (1,0)):=LA ap;have aX:(2000:Int)<(s.size:Int):=by omega
  have aY:=a1.out.lg;obtain⟨aZ,ba,bb,au⟩:=id aw.out;have aM:=au 0;have aN:=au 1;have aO:=au 2;rw[r]at aY aZ ba bb aM aN aO;clear ad am au;go_enter Tryz.func15,Tryz.ntmps15;go_wp2_with (first
   |(go_at_call 25;refine(QZ _ _ _ _).mono ?_;rintro d bj ⟨rfl,rfl⟩))
  refine Adc (v:=R #[Pw,Ll o 4 0]) (by simp[results,Tryz.results15,go_sem,Pw,Ll]) rfl ?_;rw[<-r];refine⟨Y.out,?_⟩;rw[K.out];rfl
 ·have aX:¬(2000:Int)<(s.size:Int):=by omega
  have aq:s.size<=2000:=by omega
  have L:Hid (Adg Acs 26 #[S s] t λd c=>∃u O f,d=F (W (some ⟨u,0,none⟩) O f)/\Hid (Below t.heap.size t c)/\Hid (Adg Acs 27 #[J (some ⟨c.heap.size,0,none⟩)] (c.alloc (.cells #[W (some ⟨u,0,none⟩) O f,W none 0 0,V C 0] 102)) λd U=>Yp c.heap.size o (c.alloc (.cells #[W (some ⟨u,0,none⟩) O f,W none 0 0,V C 0] 102)) (DP s 0) d U)):=by
   refine(Wf s t aq).mono ?_;rintro d c ⟨an,u,f,rfl,aS⟩;refine⟨u,_,f,rfl,an,?_⟩;have aT:Below c.heap.size c (c.alloc (.cells #[W (some ⟨u,0,none⟩) (BM s 0).length f,W none 0 0,V C 0] 102)):=bA;have ay:Below n.heap.size n c:=Y.out.trans (an.mono Y.out.size);exact PU (B:=n) aq (aQ aq _ _ _) ⟨ad,ay.trans (aT.mono ay.size),ay.size⟩ (TQ aS) (Ac0 _)
  have aJ:=hid ad;have ak:Hid (Below n.heap.size n (n.alloc (.cells #[S ⟨#[]⟩,W none 0 0,W none 0 0] 72))):=by rw[<-r];exact Y.out
  have ax:Hid (V3 (n.alloc (.cells #[S ⟨#[]⟩,W none 0 0,W none 0 0] 72)) n.heap.size (S ⟨#[]⟩) (W none 0 0) (W none 0 0)):=by rw[<-r];exact aw.out
  have al:Hid ((n.alloc (.cells #[S ⟨#[]⟩,W none 0 0,W none 0 0] 72)).heap.size=n.heap.size+1):=by rw[<-r];exact a4
  rw[r]at L;clear ad am Y aw a1 a4 r t;match h1:DP s 0 with
  |P (f,a)=>
   have K:Hid (BF s=P (f,a)):=MX ap h1;rw[h1]at L;clear h1;go_enter Tryz.func15,Tryz.ntmps15;go_wp2_with (first
    |(go_at_call 26;refine L.out.mono ?_;rintro d c ⟨u,O,cc,rfl,h,aa⟩)
    |(go_at_call 27;refine aa.out.mono ?_;rintro d b ⟨j,nm,m,a5,a6,k,a7,a8,l⟩;have I:=hid j;replace l:d=F (R #[T #[S nm,W m a5 a6,W k a7 a8],Z 107 (KQ o (Dm f) a)]):=l;subst l;have a2:=hid ((((ax.out.cJ h.out).cJ bA).ef j (by have:=h.out.size;have:=al.out;omega)).cJ ((Acv _ _).alloc (Acu _) (.cells #[S nm,W m a5 a6,W k a7 a8] 72)));obtain⟨a9,aB,aC,i⟩:=id a2.out;have aD:=i 0;have aE:=i 1;have aG:=i 2;clear j i))
   obtain⟨ag,ah,ai,-⟩:=a2.out.put (S ⟨#[]⟩) (W none 0 0) (W none 0 0);refine Adc (v:=R #[Pw,Z 107 (KQ o (Dm f) a)]) (by simp[results,Tryz.results15,go_sem,ag,ah,ai,Pw]) rfl ?_;have e:=Hv ak.out h.out I.out;refine⟨Cd (Cd (Cd (e.trans (bA.mono e.size)) (Acu _) _) (Acu _) _) (Acu _) _,?_⟩;rw[K.out];rfl
  |.ok ((nm,im,df),q)=>
   have ao:=LR aq (Ac0 _) h1;have M:Hid (∀(c b:Q) (ar:Obj) (ae ac:X),Below (n.alloc (.cells #[S ⟨#[]⟩,W none 0 0,W none 0 0] 72)).heap.size (n.alloc (.cells #[S ⟨#[]⟩,W none 0 0,W none 0 0] 72)) c->EF c.heap.size (c.alloc ar) b->∀g:List DT,Jl b (c.alloc ar).heap.size ae im->Ie b (c.alloc ar).heap.size ac g->g.map GZ=df->∀af,Adg Acs 28 #[T #[S nm,ae,ac]] (b.alloc af) λd U=>d=F (luV o (IC none (Ct im df)))/\Hid (Below (b.alloc af).heap.size (b.alloc af) U)):=by
    intro c b ar ae ac an j g aR aP H af;have e:=Hv ak.out an j;have w:Below b.heap.size b (b.alloc af):=bA;subst H;have aV:=ao.ok;have aU:=ao.len;simp only[Adf]at aU;refine(Pt (nm:=nm) (aJ.out.cJ (e.trans (w.mono e.size))) (aR.cJ Ky w) (aP.cJ B5 w) (by omega) (by omega) (λaH aW=>aV (GZ aH) (Adj.2 ⟨aH,aW,rfl⟩))).mono ?_;rintro d U ⟨rfl,D⟩;exact⟨rfl,D⟩
   rw[h1]at L;have N:=QD (Ct im df) none;match D:Lv none (Ct im df) with
   |none=>
    have K:Hid (BF s=.ok (nm,im,df)):=Q4 ap h1 D;rw[D]at N;rw[show IC none (Ct im df)=none from N]at M;clear h1 D N ao;unfold luV at M;simp only at M;go_enter Tryz.func15,Tryz.ntmps15;go_wp2_with (first
     |(go_at_call 26;refine L.out.mono ?_;rintro d c ⟨u,O,cc,rfl,h,aa⟩)
     |(go_at_call 27;refine aa.out.mono ?_;rintro d b ⟨j,ae,ac,g,l,G,E,H⟩;obtain⟨m,y,rfl⟩:=G.slice;obtain⟨k,z,rfl⟩:=E.slice;subst l;have I:=hid j;have a0:=hid G;have az:=hid E;have aI:=hid H;have av:=hid (M.out c b _ _ _ h.out j g G E H);clear j G E H)
     |(go_at_call 28;refine(av.out _).mono ?_;rintro d aj ⟨rfl,x⟩;have ab:=hid ((((ax.out.cJ h.out).cJ bA).ef I.out (by have:=h.out.size;have:=al.out;omega)).cJ (bA.trans (x.out.mono (by simp))));obtain⟨a9,aB,aC,i⟩:=id ab.out;have aD:=i 0;have aE:=i 1;have aG:=i 2;have bg:=Aa x.out (show(b.alloc (.cells #[S nm,W m im.length y,W k g.length z] 72)).cell? ⟨b.heap.size,0,none⟩=some (S nm) by simp);have bh:=Aa x.out (show(b.alloc (.cells #[S nm,W m im.length y,W k g.length z] 72)).cell? ⟨b.heap.size,1,none⟩=some (W m im.length y) by simp);have bi:=Aa x.out (show(b.alloc (.cells #[S nm,W m im.length y,W k g.length z] 72)).cell? ⟨b.heap.size,2,none⟩=some (W k g.length z) by simp);clear i))
    obtain⟨ag,ah,ai,-⟩:=ab.out.put (S nm) (W m im.length y) (W k g.length z);refine Adc (v:=R #[T #[S nm,W m im.length y,W k g.length z],.nilIface]) (by simp[results,Tryz.results15,go_sem,ag,ah,ai]) rfl ?_;have e:=Hv ak.out h.out I.out;have w:Below b.heap.size b aj:=((Acv b.heap.size b).alloc (Acu _) _).trans (x.out.mono (by simp));refine⟨Cd (Cd (Cd (e.trans (w.mono e.size)) (Acu _) _) (Acu _) _) (Acu _) _,?_⟩;rw[K.out];have bc:=h.out.size;have be:=al.out;have a3:∀p,p≠n.heap.size->(((aj.setCell ⟨n.heap.size,0,none⟩ (S nm)).setCell ⟨n.heap.size,1,none⟩ (W m im.length y)).setCell ⟨n.heap.size,2,none⟩ (W k g.length z)).heap[p]?=aj.heap[p]?:=λp e=>by rw[Ac4 _ _ _ _ e,Ac4 _ _ _ _ e,Ac4 _ _ _ _ e]
    refine⟨_,_,_,_,_,_,g,rfl,?_,?_,aI.out⟩
    ·refine((a0.out.cJ Ky w).fr Ky (by simp) λp e=>a3 p ?_).low (by simp;omega);have:=(a0.out.rg p e).1;simp at this;omega
    ·refine((az.out.cJ B5 w).fr B5 (by simp) λp e=>a3 p ?_).low (by simp;omega);have:=(az.out.rg p e).1;simp at this;omega
   |some (f,a)=>
    have K:Hid (BF s=P (f,a)):=OS ap h1 D;rw[D]at N;rw[show IC none (Ct im df)=some (Dm f,a) from N]at M;clear h1 D N ao;go_enter Tryz.func15,Tryz.ntmps15;go_wp2_with (first
     |(go_at_call 26;refine L.out.mono ?_;rintro d c ⟨u,O,cc,rfl,h,aa⟩)
     |(go_at_call 27;refine aa.out.mono ?_;rintro d b ⟨j,ae,ac,g,l,G,E,H⟩;obtain⟨m,y,rfl⟩:=G.slice;obtain⟨k,z,rfl⟩:=E.slice;subst l;have I:=hid j;have av:=hid (M.out c b _ _ _ h.out j g G E H);clear j G E H)
     |(go_at_call 28;refine(av.out _).mono ?_;rintro d aj ⟨l,x⟩;replace l:d=F (Z 107 (KQ o (Dm f) a)):=l;subst l;have ab:=hid ((((ax.out.cJ h.out).cJ bA).ef I.out (by have:=h.out.size;have:=al.out;omega)).cJ (bA.trans (x.out.mono (by simp))));obtain⟨a9,aB,aC,i⟩:=id ab.out;have aD:=i 0;have aE:=i 1;have aG:=i 2;clear i))
    obtain⟨ag,ah,ai,-⟩:=ab.out.put (S ⟨#[]⟩) (W none 0 0) (W none 0 0);refine Adc (v:=R #[Pw,Z 107 (KQ o (Dm f) a)]) (by simp[results,Tryz.results15,go_sem,ag,ah,ai,Pw]) rfl ?_;have e:=Hv ak.out h.out I.out;have w:Below b.heap.size b aj:=((Acv b.heap.size b).alloc (Acu _) _).trans (x.out.mono (by simp));refine⟨Cd (Cd (Cd (e.trans (w.mono e.size)) (Acu _) _) (Acu _) _) (Acu _) _,?_⟩;rw[K.out];rfl
def GK(a:ByteArray):Nat×Nat:=match BF a with
 |P e=>e
 |.ok _=>(0,0)
theorem Mq(a:BF s=P (w,v)):w=1\/w=2\/w=3\/w=4\/w=5:=by
 unfold BF at a;split at a
 ·grind
 ·match h1:DP s 0,a with
  |P (c',a'),a=>
   cases a;have:=Zg s 0 w v h1;omega
  |.ok (x,q),a=>
   simp at a;match h2:Lv none (Ct x.2.1 x.2.2),a with
   |some e,a=>
    cases a;have b:=((F8 _ none).1 _ h2).1;rcases b with b|b
    ·let ⟨f,g,d⟩:=Ada.1 b
     rcases Acz.1 d with c|c
     ·have:=(J2 _ _ _ c).1;omega
     ·have:=Me _ 31 _ _ _ ((L5 _ 31 _ _ _).2 c);omega
    ·cases b
theorem X4(a:w=1\/w=2\/w=3\/w=4\/w=5):Hw (Dm w)=(w:Int):=by
 rcases a with rfl|rfl|rfl|rfl|rfl<;>rfl
theorem Ug(a:w=1\/w=2\/w=3\/w=4\/w=5):1<=Dm w/\Dm w<19:=by
 rcases a with rfl|rfl|rfl|rfl|rfl<;>decide
theorem Tj(c b:X)(a:Q):Sem.run Acs (Instr.field 79 (T #[c,b]) 1) a=.ok b a:=by kernel_rfl
theorem Tf{s:ByteArray}(N:s.size<=2000->∀H K L,EO H K L o s)(D:Ck n o)(E:SY n o):Adg Acs 8 #[S s] n λa O=>Below n.heap.size n O/\a=F (R #[V C ((GK s).1:Int),V C ((GK s).2:Int)]):=by
 have i:=hid (ND (s:=s) N E);have z:=hid D;have aa:=Tj;clear D E;match h:BF s with
 |P (d,e)=>
  have y:=Mq h;have I:Hid (Hw (Dm d)=(d:Int)):=X4 y;have B:Hid (1<=Dm d/\Dm d<19):=Ug y;have w:Hid (GK s=(d,e)):=by show _=_;unfold GK;rw[h]
  have j:Hid (Adg Acs 15 #[S s] n λa b=>a=F (R #[T #[S ⟨#[]⟩,W none 0 0,W none 0 0],M8 (o (Dm d)) 0 (e:Int)])/\Hid (Below n.heap.size n b)):=by
   refine i.out.mono ?_;rintro a b ⟨x,f⟩;rw[h]at f;exact⟨f,x⟩
  unfold M8 at j;clear h i y;go_enter Tryz.func8,Tryz.ntmps8;go_wp2_with (first
   |(go_at_call 15;refine j.out.mono ?_;rintro a b ⟨rfl,c⟩)
   |(go_at_call 16;refine(Ke (z.out.cJ (c.out.trans (((Acv b.heap.size b).alloc (Acu _) _).mono c.out.size))) (Dm d) ⟨by have:=B.out;omega,B.out.2⟩ 0 (e:Int)).mono ?_;rintro a U ⟨rfl,G⟩;have t:=hid ((c.out.trans (((Acv b.heap.size b).alloc (Acu _) _).mono c.out.size)).trans (G.mono (Ac5 c.out.size (by simp))));clear G)
   |(go_at_call 17;refine(Iv (z.out.cJ t.out) (o (Dm d)) 0 (e:Int)).mono ?_;rintro a Y ⟨rfl,g⟩;have u:=hid (t.out.trans (g.mono t.out.size));clear g))
  refine Adc (v:=R #[V C (Hw (Dm d)),V C (e:Int)]) (by simp[results,Tryz.results8,go_sem]) rfl ?_;refine⟨u.out,?_⟩;rw[w.out,I.out]
 |.ok (nm,im,df)=>
  have w:Hid (GK s=(0,0)):=by show _=_;unfold GK;rw[h]
  have j:Hid (Adg Acs 15 #[S s] n λa b=>∃p q k m r l,a=F (R #[T #[S nm,W p q k,W m r l],.nilIface])/\Hid (Below n.heap.size n b)):=by
   refine i.out.mono ?_;rintro a b ⟨x,f⟩;rw[h]at f;obtain⟨p,q,k,m,r,l,ab,M,-⟩:=f;exact⟨p,q,k,m,r,l,M,x⟩
  clear h i;go_enter Tryz.func8,Tryz.ntmps8;go_wp2_with (first
   |(go_at_call 15;refine j.out.mono ?_;rintro a b ⟨p,q,k,m,r,l,rfl,c⟩)
   |(go_at_call 16;refine(Tr _).mono ?_;rintro a U ⟨rfl,rfl⟩)
   |(go_at_call 17;refine(SR _).mono ?_;rintro a Y ⟨rfl,g⟩;have u:=hid ((c.out.trans (((Acv b.heap.size b).alloc (Acu _) _).mono c.out.size)).trans (g.mono (Ac5 c.out.size (by simp))));clear g))
  refine Adc (v:=R #[V C 0,V C 0]) (by simp[results,Tryz.results8,go_sem]) rfl ?_;refine⟨u.out,?_⟩;rw[w.out];rfl
theorem Xg(g:s.size<=2000)(d:Bo s 0=.ok (sv,w)):∀b∈sv.2.2,b.2.1.length<=2000/\(BQ 31 b.2.2/\CN 31 b.2.2):=by
 have a:=FZ s 0;rw[d]at a;match h1:DP s 0 with
 |P e=>rw[h1]at a;cases a
 |.ok (z,q')=>
  rw[h1]at a;have i:sv=PI z:=by cases a;rfl
  subst i;intro b h;obtain⟨c,f,rfl⟩:=Adj.1 h;have:=(LR g (Ac0 _) h1).ok c f;exact⟨this.2.2,this.1,this.2.1⟩
theorem PM{b:ve->wd->ve}{a:List wd}(d:w<a.length)(c:ve):(a.drop w).foldl b c=(a.drop (w+1)).foldl b (b c a[w]):=by
 rw[Adv d,Ab2]
theorem PN(a9:¬2000<s.size)(q:Bo s 0=.ok ((wn,wf,H),w)):Adg Acs 10 #[S s] n λf aa=>J5 s n f aa:=by
 have aI:=hid (Xg (by omega) q);obtain⟨u,U⟩:∃u,u=n.alloc (.cells #[S ⟨#[]⟩,W none 0 0,W none 0 0] 48):=⟨_,rfl⟩;have a7:Below n.heap.size n u:=by rw[U];exact bA
 have bf:u.heap.size=n.heap.size+1:=by rw[U];simp
 have bc:V3 u n.heap.size (S ⟨#[]⟩) (W none 0 0) (W none 0 0):=by
  subst U;exact⟨by simp,by simp,by simp,λc=>by simp⟩
 obtain⟨L,ag⟩:∃L,L=u.alloc (.cells #[S s,V C 0,V C 0,V C 0,V C 0,S ⟨#[]⟩,W none 0 0,W none 0 0] 84):=⟨_,rfl⟩;have a8:Below u.heap.size u L:=by rw[ag];exact bA
 have aV:=a7.trans (a8.mono a7.size);have b1:L.heap.size=n.heap.size+2:=by simp_all
 have be:TX L (n.heap.size+1) s 0 0 0 0 (S ⟨#[]⟩) (W none 0 0) (W none 0 0):=by
  rw[ag,<-bf];exact⟨by simp,by simp,by simp,by simp,by simp,by simp,by simp,by simp,λc _=>by simp⟩
 have x:=hid (Oh a9 q);have bm:=hid q;have bE:¬(2000:Int)<(s.size:Int):=by omega
 have az:Hid (Adg Acs 19 #[J (some ⟨n.heap.size+1,0,none⟩)] L λf g=>f=F (R #[])/\∃o m i k d,Hid (Below n.heap.size n g/\V3 g n.heap.size (S ⟨#[]⟩) (W none 0 0) (W none 0 0)/\wf.length+H.length<=2000/\EH (n.heap.size+1) g (W o wf.length m) (W i H.length k) wf H d)/\TX g (n.heap.size+1) s w 0 0 0 (S wn) (W o wf.length m) (W i H.length k)):=by
  refine(Hm be (by omega) (Ac0 _)).mono ?_;rintro f g ⟨rfl,aZ,y⟩;rw[q]at y;obtain⟨bG,b8,d,y,-,a4,a9⟩:=y;obtain⟨o,m,rfl⟩:=Ad a4.ir;obtain⟨i,k,rfl⟩:=Ad a4.dr;refine⟨rfl,o,m,i,k,d,⟨Oq aV aZ (by omega) (by omega),?_,a9,a4⟩,y⟩;exact(bc.cJ a8).cK (aZ.block _ (by omega) (by omega) (by omega))
 rw[ag,U]at az;clear a7 a8 bc be ag aV q b1 bf U;go_enter Tryz.func10,Tryz.ntmps10;go_wp2_with (first
  |(go_at_call 19;refine az.out.mono ?_;rintro f g ⟨rfl,o,m,i,k,d,h,aT⟩;have aL:=hid aT;obtain⟨aM,aN,aO,N,a2,aP,aQ,aR,-⟩:=aT))
 have E:Hid (d.length=H.length):=h.out.2.2.2.dk.len;have r:Hid (Ju (n.heap.size+1) s w (S wn) (W o wf.length m) (W i H.length k) wf H d g g 0 (0,0)):=Ju.start aL.out rfl h.out.2.2.2;have I:H.length<=2000:=by have:=h.out.2.2.1;omega
 clear az aL;go_loopw [6] (λB wr=>∃b:Nat,b<=H.length/\B=V C (b:Int)/\wr=g) (λB _=>H.length-(intOf B).toNat)
 case atStart=>grind
 case round=>
  obtain⟨b,bx,rfl,aB⟩:=hrel;replace aB:=aB.symm
  subst aB;by_cases O:b<H.length
  ·have bt:(0:Int)<=(b:Int):=by omega
   have bu:(b:Int)<(H.length:Int):=by omega
   have bz:b<2000:=by omega
   obtain⟨p,rfl⟩:∃p,i=some ⟨p,0,none⟩:=by
    obtain⟨p,a3,f,-⟩:=r.out.dr.form (by omega);grind
   have bn:Hid (Ju (n.heap.size+1) s w (S wn) (W o wf.length m) (W (some ⟨p,0,none⟩) H.length k) wf H d g g b (0,0)):=⟨r.out.lf,r.out.tx,r.out.ir,r.out.dr,λc ai b2 _=>r.out.ak c ai b2 (Ac0 _)⟩;obtain⟨an,am,al,aq,ap,ao,ac,-,-,-,bs,-⟩:=bn.out.cells E.out O;clear I;go_wp2;exact⟨⟨b+1,by omega,by go_num,by simp⟩,by simp[intOf];omega⟩
  ·have bw:¬(b:Int)<(H.length:Int):=by omega
   obtain rfl:b=H.length:=by omega
   clear I;go_wp2;clear aM aN aO N a2 aP aQ aR;have a0:Hid ((∀c (q:c<d.length),n.heap.size+1+1<=d[c].2.1/\d[c].2.1<=d[c].2.2/\d[c].2.2<=g.heap.size)/\∀ah c (G:ah<c) (q:c<d.length),d[ah].2.2<=d[c].2.1):=⟨λc ai=>h.out.2.2.2.dk.mem _ (Ac8 _),λah c G ai=>h.out.2.2.2.dk.apart ah c G ai⟩;obtain⟨M,a5⟩:∃M,K1 wf H (0,0)=M:=⟨_,rfl⟩;have aK:=hid a5;rw[a5]at x;clear a5;have I:H.length<=2000:=by have:=h.out.2.2.1;omega
   have aC:=h.out.1.size;go_loopw [7] (λB wr=>∃b:Nat,b<=H.length/\B=V C (b:Int)/\∃K,Hid (Ju (n.heap.size+1) s w (S wn) (W o wf.length m) (W i H.length k) wf H d g wr b K/\(H.drop b).foldl (Ki (λY=>A3 Y (Ao wf H) 0)) K=M)) (λB _=>H.length-(intOf B).toNat)
   case atStart=>exact⟨0,Ac0 _,rfl,(0,0),r.out,aK.out⟩
   case round=>
    have bk:Hid (∀c (q:c<d.length) (y:c<H.length),∃b3 bp,d[c].1.1=.slice b3 H[c].2.1.length bp):=λc q y=>Ad (r.out.ak c q y (Ac0 _)).1.l;clear r aK;obtain⟨b,bx,rfl,K,j⟩:=hrel;rename Q=>wr
    obtain⟨aM,aN,aO,N,a2,aP,aQ,aR,-⟩:=j.out.1.tx;by_cases O:b<H.length
    ·have bt:(0:Int)<=(b:Int):=by omega
     have bu:(b:Int)<(H.length:Int):=by omega
     have bz:b<2000:=by omega
     obtain⟨p,rfl⟩:∃p,i=some ⟨p,0,none⟩:=by
      obtain⟨p,a3,f,-⟩:=j.out.1.dr.form (by omega);grind
     have aX:b<d.length:=by have:=E.out;omega
     obtain⟨an,am,al,aq,ap,ao,ac,br,b5,b6,bs,aS⟩:=j.out.1.cells E.out O;obtain⟨X,z⟩:∃X,X=(wr.alloc (.cells #[.string H[b].1,W an am al,W aq ap ao,J (some ⟨ac,0,none⟩)] 88)).drew:=⟨_,rfl⟩;have aU:Below wr.heap.size wr X:=by rw[z];exact C2 bA
     have ad:=hid (j.out.1.step (X:=X) (D:=wr.heap.size) E.out (by have:=h.out.2.2.1;omega) I O aX a0.out.1 a0.out.2 (aI.out _ (Ac8 _)) aU (Acu _) (by rw[z];simp));rw[aS]at ad;have au:X.cell? ⟨wr.heap.size,1,none⟩=some (W an am al):=by rw[z];simp
     have av:X.cell? ⟨wr.heap.size,2,none⟩=some (W aq ap ao):=by rw[z];simp
     have aw:X.cell? ⟨wr.heap.size,3,none⟩=some (J (some ⟨ac,0,none⟩)):=by rw[z];simp
     have bl:Hid ((H.drop (b+1)).foldl (Ki (λY=>A3 Y (Ao wf H) 0)) (Ki (λY=>A3 Y (Ao wf H) 0) K H[b])=M):=by
      have e:=j.out.2;rw[PM O]at e;exact e
     rw[z]at ad au av aw;clear aS z aU aX I aC;obtain⟨b7,aW⟩:∃aj,H[b].1=aj:=⟨_,rfl⟩;rw[aW]at br ad au av aw;clear aW;go_upto_region 15 with(fail)
     go_region_held_law (λaa=>aa.cell? ⟨wr.heap.size,1,none⟩=some (W an am al)/\aa.cell? ⟨wr.heap.size,2,none⟩=some (W aq ap ao)/\aa.cell? ⟨wr.heap.size,3,none⟩=some (J (some ⟨ac,0,none⟩))) (exact⟨by assumption,by assumption,by assumption⟩)
      (first
       |(go_at_call 21;refine ad.out.mono ?_;rintro f bL ⟨bK,rfl,ae,aY⟩;have bi:=hid aY;have bN:=(Ac1 (a:=⟨wr.heap.size,1,none⟩) ae).trans au;have bO:=(Ac1 (a:=⟨wr.heap.size,2,none⟩) ae).trans av;have bP:=(Ac1 (a:=⟨wr.heap.size,3,none⟩) ae).trans aw;clear aY ae)
       |(go_at_call 20;refine bi.out.mono ?_;rintro f bM ⟨rfl,af,bb⟩;have bo:=hid bb;have bQ:=(Ac1 (a:=⟨wr.heap.size,1,none⟩) af).trans au;have bR:=(Ac1 (a:=⟨wr.heap.size,2,none⟩) af).trans av;have bS:=(Ac1 (a:=⟨wr.heap.size,3,none⟩) af).trans aw;clear bb af))
     go_wp2;exact⟨⟨b+1,by omega,by go_num,_,bo.out,bl.out⟩,by simp[intOf];omega⟩
    ·have bw:¬(b:Int)<(H.length:Int):=by omega
     obtain rfl:b=H.length:=by omega
     have aJ:Hid (K=M):=by have e:=j.out.2;rw[Ab9]at e;exact e
     have a1:Hid (V3 wr n.heap.size (S ⟨#[]⟩) (W none 0 0) (W none 0 0)):=h.out.2.1.cK (j.out.1.lf.block _ h.out.2.1.lt (by omega) (Ads (by omega)));have aH:Hid (Below n.heap.size n wr):=Vf h.out.1 j.out.1.lf (by omega) (by omega) aC;obtain⟨bH,bI,bJ,ar⟩:=id a1.out;have b9:=ar 0;have bB:=ar 1;have bC:=ar 2;rw[<-aJ.out]at x;obtain⟨sc,b4⟩:=K;simp only at N a2 x;have bj:Hid (∀ab ax ay,Yq (((wr.setCell ⟨n.heap.size,0,none⟩ ab).setCell ⟨n.heap.size,1,none⟩ ax).setCell ⟨n.heap.size,2,none⟩ ay) (W o wf.length m) (W i H.length k) wf H):=λab ax ay=>by
      have bv:∀v:Value,(∀t∈vB v,n.heap.size+2<=t)->Fr (vB v) wr (((wr.setCell ⟨n.heap.size,0,none⟩ ab).setCell ⟨n.heap.size,1,none⟩ ax).setCell ⟨n.heap.size,2,none⟩ ay):=λv b0 t a6=>by
       have:=b0 t a6;rw[Ac4 _ _ _ _ (show t≠n.heap.size by omega),Ac4 _ _ _ _ (show t≠n.heap.size by omega),Ac4 _ _ _ _ (show t≠n.heap.size by omega)]
      have ba:∀{f bg aj:Nat} {v:Value} {bh:List Value},wr.ownsRow (n.heap.size+1+1) f bg v aj bh->(((wr.setCell ⟨n.heap.size,0,none⟩ ab).setCell ⟨n.heap.size,1,none⟩ ax).setCell ⟨n.heap.size,2,none⟩ ay).ownsRow 0 f bg v aj bh:=λe=>by
       have b:=Az e (bv _ λt a6=>by have:=(e.lt t (Ah.1 a6)).1;omega);exact⟨b.1,b.2.imp id λ⟨p,a3,bq,f,_,e⟩=>⟨p,a3,bq,f,Ac0 _,e⟩⟩
      exact⟨ba j.out.1.ir,d,E.out,ba j.out.1.dr,bk.out⟩
     clear ar I aC j a0 h E aI aJ;by_cases G:sc=0
     ·subst G;rw[if_pos rfl]at x;replace N:wr.cell? ⟨n.heap.size+1,3,none⟩=some (V C 0):=N
      go_wp2;obtain⟨aD,aE,aG,-⟩:=a1.out.put (S wn) (W o wf.length m) (W i H.length k);refine Adc (v:=R #[T #[S wn,W o wf.length m,W i H.length k],V C 0,V C 0]) (by simp[results,Tryz.results10,go_sem,aD,aE,aG]) rfl ?_;unfold J5;rw[x.out];exact⟨Bq (Bq (Bq aH.out (Acu _) _) (Acu _) _) (Acu _) _,_,_,_,_,_,_,_,rfl,λab w e _=>by rw[bm.out]at e;cases e;exact⟨rfl,bj.out _ _ _⟩⟩
     ·rw[if_neg G]at x;have bD:((sc:Int)==0)=false:=by rw[beq_eq_false_iff_ne];omega
      go_upto_region 17 with(fail)
      go_region
      go_wp2;obtain⟨aD,aE,aG,-⟩:=a1.out.put (S ⟨#[]⟩) (W none 0 0) (W none 0 0);refine Adc (v:=R #[T #[S ⟨#[]⟩,W none 0 0,W none 0 0],V C (sc:Int),V C (b4:Int)]) (by simp[results,Tryz.results10,go_sem,aD,aE,aG]) rfl ?_;unfold J5;rw[x.out];exact⟨C2 (Bq (Bq (Bq aH.out (Acu _) _) (Acu _) _) (Acu _) _),_,_,_,_,_,_,_,rfl,λ_ _ _ e=>absurd e G⟩
theorem Ol(b:ByteArray)(e:Q):Adg Acs 10 #[S b] e λf g=>J5 b e f g:=by
 by_cases d:2000<b.size
 ·exact L7 d
 ·match h:Bo b 0 with
  |P (c,a)=>exact NC d h
  |.ok ((nm,im,df),q)=>exact PN d h
theorem Ur(c:ByteArray):GK c=EA c:=by
 by_cases b:2000<c.size
 ·unfold GK;rw[LA b,Km b]
 ·have a:=FZ c 0;match h1:DP c 0,h2:Bo c 0 with
  |P e,P e'=>
   rw[h1,h2]at a;cases a;unfold GK;rw[MX b h1,Lq b h2]
  |P e,.ok (x,q)=>rw[h1,h2]at a;cases a
  |.ok (x,q),P e=>rw[h1,h2]at a;cases a
  |.ok (x,q),.ok (y,q')=>
   rw[h1,h2]at a;have f:y=PI x:=by cases a;rfl
   subst f;have d:=P6 (LR (by omega) (Ac0 _) h1) 0;rw[Oh b h2];have h:K1 (PI x).2.1 (PI x).2.2 (0,0)=RD (λg=>A3 g (Ao (x.2.1.map Rc) (x.2.2.map KO)) 0) (x.2.2.map KO) (0,0):=rfl;unfold GK;match h3:Lv none (Ct x.2.1 x.2.2) with
   |none=>
    rw[Q4 b h1 h3];unfold Ya at d;grind
   |some e=>
    rw[OS b h1 h3];unfold Ya at d;grind
end Go.Proofs.YtnghccjoicmabaaGreatDoor
