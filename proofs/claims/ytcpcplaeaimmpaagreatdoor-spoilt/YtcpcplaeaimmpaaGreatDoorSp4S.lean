import Derived.Test.YtcpcplaeaimmpaaGreatDoorArgSS
set_option maxRecDepth 100000
set_option maxHeartbeats 1000000
namespace Go.Proofs.YtcpcplaeaimmpaaGreatDoor
open Go.RowKit Go.Sort
def FM(bs:List Bool)(i:Nat)(x y:Value):Prop:=(x=.int .i64 (-1)∧y=.int .i64 (-1)∧∀k,k<i->bs.getD k false=false)∨∃f l:Nat,x=.int .i64 f∧y=.int .i64 l∧f<=l∧l<i∧bs.getD f false=true∧∀k,k<f->bs.getD k false=false
theorem conv_bytes(s:ByteArray)(w:World):(convert 9 40 (.string s)).run Tryz.prog w=.ok (.slice (some ⟨w.heap.size,0,none⟩) s.size (grownCap w s.size 0 5)) (w.drew.alloc (.cells (bytesRow s (grownCap w s.size 0 5)) 5 ((bytesRow s (grownCap w s.size 0 5)).size,(bytesRow s (grownCap w s.size 0 5)).size+1))):=
 run_bytes_of_string w _ _ _ s Tryz.underlying9 Tryz.underlying40 Tryz.underlying5
theorem conv_back{w:World}{B:Nat}{L:List UInt8}(h:RU w B L)(n c:Nat)(hn:n=L.length):(convert 40 9 (.slice (some ⟨B,0,none⟩) n c)).run Tryz.prog w=.ok (.string ⟨L.toArray⟩) w:=by
 subst hn;refine run_convert_bytes_back w _ _ _ ⟨B,0,none⟩ c L Tryz.underlying40 Tryz.underlying5 Tryz.underlying9 λj hj=>?_;have:=h.c j hj;rw[List.getD_eq_getElem?_getD,List.getElem?_eq_getElem hj]at this;rw[show(⟨B,0,none⟩:Addr).add j=⟨B,j,none⟩ by unfold Addr.add;split<;>simp_all];simpa using this
theorem pow_u8(r:Nat)(hr:r<8):(2:Int) ^ r % 256=((2 ^ r:Nat):Int):=by
 rcases(show r=0∨r=1∨r=2∨r=3∨r=4∨r=5∨r=6∨r=7 by omega) with rfl|rfl|rfl|rfl|rfl|rfl|rfl|rfl<;>rfl
theorem shl_u8(r:Nat)(hr:r<8)(w:World):(Op.shift .shl .u8 1 .i64 (r:Int)).run Tryz.prog w=.ok (.int .u8 ((2 ^ r:Nat):Int)) w:=by
 rcases(show r=0∨r=1∨r=2∨r=3∨r=4∨r=5∨r=6∨r=7 by omega) with rfl|rfl|rfl|rfl|rfl|rfl|rfl|rfl<;>rfl
theorem spoilt_walk{w:World}{nm:ByteArray}{ip gp:Option Addr}{il ic gl gc:Nat}(c:Int){bv:Value}{bs:List Bool}{sE:ByteArray}{e0:Int}(hB:BoolsAt w bv bs)(h1:-9223372036854775808<=c)(h2:c<=9223372036854775807)
 (hal:∀W,Below w.heap.size w W->Calls Tryz.prog 5 #[] W λe w'=>e=.returned (.bool true)∧Below W.heap.size W w')
 (hen:∀W,Below w.heap.size w W->Calls Tryz.prog 6 #[.agg #[.string nm,.slice ip il ic,.slice gp gl gc]] W λe w'=>e=.returned (.tuple #[.string sE,.int .i64 e0])∧Below W.heap.size W w')
 (hno:e0≠0->sE=⟨#[]⟩) (hsz:e0=0->8<=sE.size∧sE.size<=100000)
 (hde:∀a f l:Nat,e0=0->l<32->f<=l->bs.getD f false=true->(∀k,k<f->bs.getD k false=false)->a+l+1<=8*(sE.size-4)->∀W,Below w.heap.size w W->Calls Tryz.prog 8 #[.string (spS sE a bs (l+1))] W λe w'=>∃(nm:ByteArray) (ip:Option Addr) (il ic:Nat) (gp:Option Addr) (gl gc:Nat),e=.returned (.tuple #[.agg #[.string nm,.slice ip il ic,.slice gp gl gc],.int .i64 7,.agg #[.int .i64 0,.int .i64 ((sE.size-4:Nat):Int)]])∧Hid (Below W.heap.size W w')):
 Calls Tryz.prog 4 #[.agg #[.string nm,.slice ip il ic,.slice gp gl gc],.int .i64 c,bv] w λe w'=>e=.returned (.bool true)∧Below w.heap.size w w':=by
 obtain⟨bp,bc,rfl,hbl,hB⟩:=hB;obtain⟨W0,hW0⟩:∃W0,W0=w.alloc (.cells #[.string nm,.slice ip il ic,.slice gp gl gc] 25):=⟨_,rfl⟩;have hb0:Below w.heap.size w W0:=by rw[hW0];exact(Below.refl _ _).alloc (Nat.le_refl _) _
 have hv0:W0.cell? ⟨w.heap.size,0,none⟩=some (.string nm)∧W0.cell? ⟨w.heap.size,1,none⟩=some (.slice ip il ic)∧W0.cell? ⟨w.heap.size,2,none⟩=some (.slice gp gl gc):=by rw[hW0];simp
 have HV0:=hid hv0;have HAL:=hid (hal W0 hb0);have HB0:=hid hb0;have HEN:=hid hen;have HDE:=hid hde;have HBO:=hid hB;have HNO:=hid hno;have HSZ:=hid hsz;clear hal hen hde hB hno hsz hb0 hv0;unfold short at hbl;by_cases he:e0=0
 ·subst he;obtain⟨hs8,hsm⟩:=HSZ.out rfl;clear HNO HSZ;generalize hL:bs.length=L at*;go_enter Tryz.func4,Tryz.ntmps4;go_upto_region 1 with(fail)
  rw[<-hW0];clear hW0;go_upto_region 6 with(first
   |(go_at_call 5;refine HAL.out.mono ?_;rintro e w1 ⟨rfl,hb1⟩;have HB1:=hid (HB0.out.trans (hb1.mono HB0.out.size));have c0:=cell_keep hb1 HV0.out.1;have c1:=cell_keep hb1 HV0.out.2.1;have c2:=cell_keep hb1 HV0.out.2.2;clear hb1)
   |(go_at_call 6;refine(HEN.out _ HB1.out).mono ?_;rintro e w2 ⟨rfl,hb2⟩;have HB2:=hid (HB1.out.trans (hb2.mono HB1.out.size));clear hb2 c0 c1 c2))
  clear HEN HAL HV0;go_cut [10,11] (λx y wx=>x=.int .i64 (-1)∧y=.int .i64 (-1)∧Hid (Below w.heap.size w wx))
  case first=>
   go_wp2;go_meet
   exact⟨rfl,rfl,HB2.out⟩
  case rest=>
   rename World=>w3
   obtain⟨rfl,rfl,HB3⟩:=hcut;clear HB2;go_step
   go_step
   go_cut [10,11] (λx y wx=>Hid (Below w.heap.size w wx)∧((x=.int .i64 (-1))∨∃f l:Nat,x=.int .i64 f∧y=.int .i64 l∧f<=l∧l<32∧l<L∧Hid (bs.getD f false=true)∧Hid (∀k,k<f->bs.getD k false=false)))
   case first=>
    clear HDE;go_wp2;go_loopw [10,11,12] (λx y k wr=>∃i:Nat,i<=L∧i<=32∧k=.int .i64 i∧Hid (Below w.heap.size w wr)∧Hid (FM bs i x y)) (λ_ _ k _=>L-(intOf k).toNat)
    case atStart=>exact⟨0,Nat.zero_le _,Nat.zero_le _,rfl,HB3.out,Or.inl ⟨rfl,rfl,λk hk=>absurd hk (by omega)⟩⟩
    case round=>
     obtain⟨i,hi,hi32,rfl,HB4,HM⟩:=hrel;by_cases hlt:i<L∧i<32
     ·obtain⟨hlt,hl32⟩:=hlt;have hlt':(i:Int)<(L:Int):=by omega
      have hl32':(i:Int)<32:=by omega
      obtain⟨b,o,rfl,hc⟩:=HBO.out i hlt;have hc2:=cell_keep HB4.out hc;clear hc;cases hb:bs.getD i false with
      |true=>
       rw[hb]at hc2;rcases HM.out with⟨rfl,rfl,hall⟩|⟨f,l,rfl,rfl,hfl,hli,hf,hff⟩
       ·have HALL:=hid hall;clear hall;go_wp2;refine⟨⟨i+1,by omega,by omega,by go_num,HB4.out,Or.inr ⟨i,i,rfl,rfl,Nat.le_refl _,by omega,hb,HALL.out⟩⟩,by simp[intOf];omega⟩
       ·have hf0:¬(f:Int)<0:=by omega
        have HFF:=hid hff;clear hff;go_wp2;refine⟨⟨i+1,by omega,by omega,by go_num,HB4.out,Or.inr ⟨f,i,rfl,rfl,by omega,by omega,hf,HFF.out⟩⟩,by simp[intOf];omega⟩
      |false=>
       rw[hb]at hc2;have HN:Hid (∀x y,FM bs i x y->FM bs (i+1) x y):=λx y h=>by
        rcases h with⟨h1,h2,hall⟩|⟨f,l,h1,h2,hfl,hli,hf,hff⟩
        ·exact Or.inl ⟨h1,h2,λk hk=>by
          by_cases e:k=i
          ·rw[e];exact hb
          ·exact hall k (by omega)⟩
        ·exact Or.inr ⟨f,l,h1,h2,hfl,by omega,hf,hff⟩
       go_wp2;exact⟨⟨i+1,by omega,by omega,by go_num,HB4.out,HN.out _ _ HM.out⟩,by simp[intOf];omega⟩
     ·have HX:Hid (∀x y,FM bs i x y->(x=.int .i64 (-1))∨∃f l:Nat,x=.int .i64 f∧y=.int .i64 l∧f<=l∧l<32∧l<L∧Hid (bs.getD f false=true)∧Hid (∀k,k<f->bs.getD k false=false)):=λx y h=>by
       rcases h with⟨h1,-,-⟩|⟨f,l,h1,h2,hfl,hli,hf,hff⟩
       ·exact Or.inl h1
       ·exact Or.inr ⟨f,l,h1,h2,hfl,by omega,by omega,hf,hff⟩
      by_cases h3:i<L
      ·have h3':(i:Int)<(L:Int):=by omega
       have h4:¬(i:Int)<32:=by omega
       go_wp2;go_meet
       exact⟨HB4.out,HX.out _ _ HM.out⟩
      ·have h3':¬(i:Int)<(L:Int):=by omega
       go_wp2;go_meet
       exact⟨HB4.out,HX.out _ _ HM.out⟩
   case rest=>
    rename World=>w4
    obtain⟨HB4,hx⟩:=hcut;clear HB3;rcases hx with rfl|⟨f,l,rfl,rfl,hfl,hl32,hlL,HF,HFF⟩
    ·go_wp2;go_ret;exact⟨rfl,HB4.out⟩
    ·have hf0:¬(f:Int)<0:=by omega
     by_cases hl:8*(sE.size-4)<l+1
     ·have hl':8*((sE.size:Int)-4)<(l:Int)+1:=by omega
      go_wp2;go_ret;exact⟨rfl,HB4.out⟩
     ·have hl':¬8*((sE.size:Int)-4)<(l:Int)+1:=by omega
      obtain⟨n,hn⟩:∃n:Nat,n=8*(sE.size-4)-l:=⟨_,rfl⟩;have hn':8*((sE.size:Int)-4)-(l:Int)=(n:Int):=by omega
      have HPK:Hid (∀W,Calls Tryz.prog 10 #[.int .i64 c,.int .i64 (8*((sE.size:Int)-4)-(l:Int))] W λe w'=>∃k:Nat,k<n∧e=.returned (.int .i64 k)∧w'=W):=λW=>by rw[hn'];exact pick_any c n W h1 h2 (by omega) (by omega)
      clear hn';go_upto_region 17 with(first
       |(go_at_call 10;refine(HPK.out _).mono ?_;rintro e w5 ⟨a,ha,rfl,rfl⟩))
      have hcv:=conv_bytes sE w5;generalize grownCap w5 sE.size 0 5=cap at hcv;have HRU:=hid (RU.new w5 sE cap 5);have HB6:Hid (Below w.heap.size w (w5.drew.alloc (.cells (bytesRow sE cap) 5 ((bytesRow sE cap).size,(bytesRow sE cap).size+1)))):=HB4.out.drew.alloc HB4.out.size _;have HZ:=hid HB4.out.size;go_wp2;go_loopw [15] (λk wr=>∃i:Nat,i<=l+1∧k=.int .i64 i∧Hid (Below w.heap.size w wr)∧Hid (RU wr w5.heap.size (spl sE.data.toList a bs i))) (λk _=>l+1-(intOf k).toNat)
      case atStart=>exact⟨0,Nat.zero_le _,rfl,HB6.out,HRU.out⟩
      case round=>
       clear HB6 HRU hcv;obtain⟨i,hi,rfl,HB7,HR⟩:=hrel;rename World=>w7
       by_cases hlt:i<=l
       ·have hlt':(i:Int)<=(l:Int):=by omega
        obtain⟨b,o,rfl,hc⟩:=HBO.out i (by omega);have hc2:=cell_keep HB7.out hc;clear hc;cases hb:bs.getD i false with
        |true=>
         rw[hb]at hc2;obtain⟨q,r,hqr,hr8⟩:∃q r:Nat,a+i=8*q+r∧r<8:=⟨(a+i) / 8,(a+i) % 8,by omega,by omega⟩;have hw:IntKind.i64.wrap ((a:Int)+(i:Int))=(a:Int)+(i:Int):=by rw[IntKind.wrap_i64];omega
         have hq:IntKind.i64.wrap (((a:Int)+(i:Int)).tdiv 8)=(q:Int):=by rw[Int.tdiv_eq_ediv_of_nonneg (by omega),IntKind.wrap_i64];omega
         have hr:(((a:Int)+(i:Int)).tmod 8)=(r:Int):=by rw[Int.tmod_eq_emod_of_nonneg (by omega)];omega
         have hsh:=shl_u8 r hr8;rw[<-hr]at hsh;have hqz:(q:Int)<(sE.size:Int):=by omega
         have hql:q<(spl sE.data.toList a bs i).length:=by rw[spl_len];show q<sE.size;omega
         have x0:=HR.out.c q hql;have z0:=HR.out.z q hql;have x0d:w7.drew.cell? ⟨w5.heap.size,q,none⟩=_:=x0;have z0d:w7.drew.frozen? ⟨w5.heap.size,q,none⟩=false:=z0;have HX:=hid (bits_xor_u8 ((spl sE.data.toList a bs i).getD q 0) r hr8);have HE:Hid (spl sE.data.toList a bs (i+1)=(spl sE.data.toList a bs i).set q (UInt8.ofNat (((spl sE.data.toList a bs i).getD q 0).toNat ^^^ 2 ^ r))):=by
          show(if _ then _ else _)=_;rw[if_pos hb];unfold tg;rw[show(a+i) / 8=q by omega,show(a+i) % 8=r by omega]
         generalize (spl sE.data.toList a bs i).getD q 0=xx at*;go_upto_region 22 with fail
         go_region_law fail
         all_goals(try go_wp2)
         all_goals go_roundw
         ·have hv:bits .xor .u8 (xx.toNat:Int) (2 ^ r % 256)=((UInt8.ofNat (xx.toNat ^^^ 2 ^ r)).toNat:Int):=by rw[<-HX.out];congr 1;exact pow_u8 r hr8
          rw[hv];exact⟨i+1,by omega,by go_num,(HB7.out.setCell HZ.out _).drew,by rw[HE.out];exact(HR.out.set hql _).drew⟩
         ·simp[intOf];omega
        |false=>
         rw[hb]at hc2;have HE:Hid (spl sE.data.toList a bs (i+1)=spl sE.data.toList a bs i):=by show(if _ then _ else _)=_;rw[if_neg (by rw[hb];decide)]
         go_wp2;exact⟨⟨i+1,by omega,by go_num,HB7.out,by rw[HE.out];exact HR.out⟩,by simp[intOf];omega⟩
       ·have hlt':¬(i:Int)<=(l:Int):=by omega
        obtain rfl:i=l+1:=by omega
        have hcb:=conv_back HR.out sE.size cap (by rw[spl_len];rfl);have HD:=hid (HDE.out a f l trivial hl32 hfl HF.out HFF.out (by omega) w7 HB7.out);clear HDE;go_wp2_with (go_at_call 8;refine HD.out.mono ?_;rintro e w8 ⟨nm2,jp,jl,jc,hp,hl2,hc3,rfl,HB8⟩)
        go_ret;have hE:((sE.size-4:Nat):Int)=(sE.size:Int)-4:=by omega
        have h8:=HB7.out.trans (HB8.out.mono HB7.out.size);refine⟨?_,(h8.alloc h8.size _).alloc (by simp;have:=h8.size;omega) _⟩;show Ending.returned (.bool (((sE.size-4:Nat):Int)==(sE.size:Int)-4))=_;rw[hE];simp
 ·have hsE:=HNO.out he;subst hsE;go_enter Tryz.func4,Tryz.ntmps4;go_upto_region 1 with(fail)
  rw[<-hW0];clear hW0;go_wp2_with (first
   |(go_at_call 5;refine HAL.out.mono ?_;rintro e w1 ⟨rfl,hb1⟩;have HB1:=hid (HB0.out.trans (hb1.mono HB0.out.size));have c0:=cell_keep hb1 HV0.out.1;have c1:=cell_keep hb1 HV0.out.2.1;have c2:=cell_keep hb1 HV0.out.2.2;clear hb1)
   |(go_at_call 6;refine(HEN.out _ HB1.out).mono ?_;rintro e w2 ⟨rfl,hb2⟩;have HB2:=hid (HB1.out.trans (hb2.mono HB1.out.size));clear hb2 c0 c1 c2))
  go_ret;exact⟨rfl,HB2.out⟩
end Go.Proofs.YtcpcplaeaimmpaaGreatDoor
