import Derived.Test.YtblobglfjhilmaaGreatDoorRk5J
import Derived.Test.YtblobglfjhilmaaGreatDoorJgJ
import Derived.Test.YtblobglfjhilmaaGreatDoorPqeJ
import Derived.Test.YtblobglfjhilmaaGreatDoorKSJ
import Derived.Test.YtblobglfjhilmaaGreatDoorTarnDecJ
import Derived.Test.YtblobglfjhilmaaGreatDoorEnc2J
import Derived.Test.YtblobglfjhilmaaGreatDoorCards
import Derived.Stop.LaidErr
import Derived.LaidHandle
import Derived.OpenShut
import Derived.Lib.LaidTab
import Derived.ProofKit
import Derived.Deep.DeepHandedRow
import Derived.Deep.DeepLaidRun
import Derived.Carry
set_option maxRecDepth 100000
set_option maxHeartbeats 8000000
namespace Go.Proofs.YtblobglfjhilmaaGreatDoor
open Go.RowKit Go.Sort
def GO(n:OpN):LGlob:=⟨tMain,0,true,codeO n⟩
def OO(n:OpN):LObj:=⟨⟨#[109]⟩,[],[GO n]⟩
theorem six{k:Nat}(hk:k<6):k=0∨k=1∨k=2∨k=3∨k=4∨k=5:=by omega
theorem oo_vals{n:OpN}(hk:n.k<6):valsG (OO n)=true:=by
 obtain⟨k,a,b⟩:=n;rcases six hk with rfl|rfl|rfl|rfl|rfl|rfl<;>kernel_rfl
theorem beh0(a d:Int):behV 0 a d=wrap64 (wrap64 (d+1)):=by
 unfold behV;rw[show rowN 0 6=0 from rfl,show rowN 0 5=1 from rfl,Int.zero_mul,show wrap64 0=0 by kernel_rfl,Int.add_zero]
theorem fit0(a d:Int):fitsV 0 a d=(decide (0<=d) && decide (wrap64 (wrap64 (d+1))<=1000)):=by
 unfold fitsV needV;rw[if_neg (by decide),beh0,show rowN 0 4=0 from rfl,show rowN 0 3=0 from rfl,Int.zero_mul,show wrap64 (0+wrap64 0)=0 by kernel_rfl]
theorem outO0(a:Int):outI ⟨0,a,[]⟩ 1=2∧outI ⟨0,a,[]⟩ 2=3:=by
 constructor
 ·show(if (1:Int)=-1 then (-1:Int) else (if (1:Int)=-2 then some (-2) else if fitsV 0 a 1 then some (behV 0 a 1) else none).getD (-1))=2;rw[fit0,beh0];kernel_rfl
 ·show(if (2:Int)=-1 then (-1:Int) else (if (2:Int)=-2 then some (-2) else if fitsV 0 a 2 then some (behV 0 a 2) else none).getD (-1))=3;rw[fit0,beh0];kernel_rfl
theorem outO9{k:Nat}(hk:k<6):outI ⟨9+(k:Int),0,[]⟩ 3=2:=by rcases six hk with rfl|rfl|rfl|rfl|rfl|rfl<;>kernel_rfl
theorem sucO{k:Nat}(hk:k<6):succs ⟨9+(k:Int),0,[]⟩ 2=[3]:=by rcases six hk with rfl|rfl|rfl|rfl|rfl|rfl<;>kernel_rfl
theorem leastO{n:OpN}(hk:n.k<6):Least (codeO n) 1 [1,2,3,2,1]:=by
 refine⟨⟨rfl,leI.refl _,λk hk' s hs=>?_⟩,λg hg i hi=>?_⟩
 ·rcases(show k=0∨k=1∨k=2∨k=3∨k=4 by simp[codeO]at hk';omega) with rfl|rfl|rfl|rfl|rfl
  ·obtain rfl:s=1:=by simpa[codeO,succs]using hs
   show leI (outI ⟨0,n.a,[]⟩ 1) 2;rw[(outO0 _).1];exact leI.refl _
  ·obtain rfl:s=2:=by simpa[codeO,succs]using hs
   show leI (outI ⟨0,n.b,[]⟩ 2) 3;rw[(outO0 _).2];exact leI.refl _
  ·obtain rfl:s=3:=by
    have hs':s∈succs ⟨9+(n.k:Int),0,[]⟩ 2:=hs;rw[sucO hk]at hs';simpa using hs'
   show leI (outI ⟨9+(n.k:Int),0,[]⟩ 3) 2;rw[outO9 hk];exact leI.refl _
  ·obtain rfl:s=4:=by simpa[codeO,succs]using hs
   show leI (outI ⟨5,0,[]⟩ 2) 1;rw[out75];exact leI.refl _
  ·simp[codeO,succs]at hs
 ·have h0:leI 1 (g.getD 0 0):=hg.start;have h1:leI 2 (g.getD 1 0):=((outO0 n.a).1▸outI_mono ⟨0,n.a,[]⟩ h0:leI 2 (outI ⟨0,n.a,[]⟩ (g.getD 0 0))).trans (hg.step 0 (by simp[codeO]) 1 (by simp[codeO,succs]));have h2:leI 3 (g.getD 2 0):=((outO0 n.b).2▸outI_mono ⟨0,n.b,[]⟩ h1:leI 3 (outI ⟨0,n.b,[]⟩ (g.getD 1 0))).trans (hg.step 1 (by simp[codeO]) 2 (by simp[codeO,succs]));have h3:leI 2 (g.getD 3 0):=(outO9 hk▸outI_mono ⟨9+(n.k:Int),0,[]⟩ h2:leI 2 (outI ⟨9+(n.k:Int),0,[]⟩ (g.getD 2 0))).trans (hg.step 2 (by simp[codeO]) 3 (by show 3∈succs ⟨9+(n.k:Int),0,[]⟩ 2;rw[sucO hk];simp));have h4:leI 1 (g.getD 4 0):=(out75▸outI_mono ⟨5,0,[]⟩ h3:leI 1 (outI ⟨5,0,[]⟩ (g.getD 3 0))).trans (hg.step 3 (by simp[codeO]) 4 (by simp[codeO,succs]));rcases(show i=0∨i=1∨i=2∨i=3∨i=4 by simp[codeO]at hi;omega) with rfl|rfl|rfl|rfl|rfl
  ·exact h0
  ·exact h1
  ·exact h2
  ·exact h3
  ·exact h4
theorem oo_bad{n:OpN}(hk:n.k<6):sBad 1 [GO n] 0=none:=by
 have h:gBad (codeO n) 1 1=none:=by
  have h1:firstBad (badIdx 1) (codeO n)=none:=by
   obtain⟨k,a,b⟩:=n;rcases six hk with rfl|rfl|rfl|rfl|rfl|rfl<;>kernel_rfl
  have h2:firstBad (badNext (codeO n).length) (codeO n)=none:=by
   obtain⟨k,a,b⟩:=n;rcases six hk with rfl|rfl|rfl|rfl|rfl|rfl<;>kernel_rfl
  have h3:firstBad (badD [1,2,3,2,1]) (codeO n)=none:=by
   refine firstBad_none _ _ λj hj=>?_;rcases(show j=0∨j=1∨j=2∨j=3∨j=4 by simp[codeO]at hj;omega) with rfl|rfl|rfl|rfl|rfl
   ·show(((1:Int)==-2)||(((1:Int) !=-1) && !fitsV 0 n.a 1))=false;rw[fit0];kernel_rfl
   ·show(((2:Int)==-2)||(((2:Int) !=-1) && !fitsV 0 n.b 2))=false;rw[fit0];kernel_rfl
   ·show badD [1,2,3,2,1] ⟨9+(n.k:Int),0,[]⟩ 2=false;rcases six hk with h|h|h|h|h|h<;>rw[h]<;>kernel_rfl
   ·show badD [1,2,3,2,1] ⟨5,0,[]⟩ 3=false;kernel_rfl
   ·show badD [1,2,3,2,1] ⟨19,0,[]⟩ 4=false;kernel_rfl
  rw[gBad_depth (d0:=1) (most:=1) h1 (by simp[codeO]) h2 (leastO hk),h3];rfl
 show(match gBad (codeO n) (0+1) 1 with|some (e,i)=>some (e,0,i)|none=>sBad 1 [] 1)=none;rw[show(0:Int)+1=1 from rfl,h];rfl
theorem oo_ok{n:OpN}(hk:n.k<6):okO (OO n)=true:=by
 unfold okO;rw[oo_vals hk];show(sBad (((0:Nat):Int)+((1:Nat):Int)) [GO n] 0).isNone=_;rw[show(((0:Nat):Int)+((1:Nat):Int))=1 by rfl,oo_bad hk];rfl
theorem oo_lnk{n:OpN}(hk:n.k<6):lnkE [OO n] tMain=none:=by
 unfold lnkE;rw[if_neg (by simp)];have h0:fstF (λ_ O=>!okO O) [OO n] 0=none:=by
  unfold fstF;rw[oo_ok hk];rfl
 rw[h0];have h1:fstF (twB [OO n]) [OO n] 0=none:=by kernel_rfl
 have h2:fstF (λ_=>miB [OO n]) [OO n] 0=none:=by kernel_rfl
 have h3:fstF (λ_=>arB2 [OO n]) [OO n] 0=none:=by kernel_rfl
 rw[h1,h2,h3];show lnkX [OO n] tMain=none;kernel_rfl
theorem oo_img{n:OpN}(hk:n.k<6):img [OO n]=[⟨tMain,0,true,codeO n⟩]:=by
 obtain⟨k,a,b⟩:=n;rcases six hk with rfl|rfl|rfl|rfl|rfl|rfl<;>kernel_rfl
theorem oo_ent(n:OpN):imgE [OO n] tMain=0:=by kernel_rfl
def tM:ByteArray:=⟨#[109]⟩
theorem cellsO{w:World}{lo:Nat}{dv:Value}{dfs:List DT}(h:RowD w lo dv dfs){n:OpN}(he:dfs.map dtT=[((tMain,15),[],.op n.k (.num n.a) (.num n.b))]):∃dg dc pp pc,dv=.slice (some ⟨dg,0,none⟩) 1 dc∧w.cell? ⟨dg,0,none⟩=some (.string tMain)∧w.cell? ⟨dg,1,none⟩=some (.int .i64 15)∧w.cell? ⟨dg,2,none⟩=some (.slice pp 0 pc)∧w.cell? ⟨dg,3,none⟩=some (.iface 339 (vO n)):=by
 obtain⟨d,rfl⟩:∃d,dfs=[d]:=List.length_eq_one_iff.1 (by have:=congrArg List.length he;simpa using this)
 ·obtain⟨⟨x,pl⟩,pv,ns,v,ex,bs⟩:=d;simp only[List.map_cons,List.map_nil,dtT,List.cons.injEq,Prod.mk.injEq,and_true]at he;obtain⟨⟨rfl,rfl⟩,rfl,rfl⟩:=he;obtain⟨p,c,rfl⟩:=h.slice;obtain⟨g,rfl,c0,c1,c2,c3⟩:=rowD_at h (k:=0) (by simp);have hit:=h.it _ (List.mem_singleton.2 rfl);obtain⟨hN,hP⟩:=hit;obtain⟨pp,pc,hpv⟩:=hN.slice;obtain⟨lv,b1,rv,b2,hv,hl,hr,-⟩:=hP;obtain⟨rfl,-⟩:=hl;obtain⟨rfl,-⟩:=hr;replace hv:v=.iface 339 (vO n):=hv
  simp only[List.getElem_cons_zero]at c0 c1 c2 c3;refine⟨g,c,pp,pc,rfl,by simpa using c0,by simpa using c1,?_,?_⟩
  ·rw[show pv=Value.slice pp 0 pc from hpv]at c2;simpa using c2
  ·rw[hv]at c3;simpa using c3
theorem objO{w w':World}{e:Ending}{n:OpN}(hk:n.k<6)(h:MoResO w tM tMain n e w'):Below w.heap.size w w'∧∃gg gc,e=.returned (.agg #[.string tM,.slice none 0 0,.slice (some ⟨gg,0,none⟩) 1 gc])∧∀W,(∀b,w.heap.size<=b->b<w'.heap.size->W.heap[b]?=w'.heap[b]?)->w'.heap.size<=W.heap.size->ObjAt W (.agg #[.string tM,.slice none 0 0,.slice (some ⟨gg,0,none⟩) 1 gc]) (OO n):=by
 obtain⟨hb,gg,gc,cp,cc,cs,he,g4,hgc,hgg,hC,hcs⟩:=h;refine⟨hb,gg,gc,he,λW hW hz=>?_⟩;replace g4:=g4.of_block (hW gg hgg (block_lt_of_cell g4.1))
 replace hC:CodeO W w.heap.size (.slice cp cs.length cc) cs:=hC.fr okIns hz (λb hb'=>hW b (hC.rg b hb').1 (hC.rg b hb').2)
 rw[cnum_codeO hk]at hcs;have hcl:cs.length=5:=by have:=congrArg List.length hcs;simpa[codeO]using this
 have hca:=hC.at (show _<_ by omega) (λx hx=>by
  have hm:x.1∈cs.map (·.1):=List.mem_map_of_mem hx;rw[hcs]at hm;simp only[codeO,List.mem_cons,List.not_mem_nil,or_false]at hm;rcases hm with h|h|h|h|h<;>rw[h]<;>exact(show(0:Nat)<140737488355328 by omega))
 rw[hcs]at hca;refine⟨.slice none 0 0,.slice (some ⟨gg,0,none⟩) 1 gc,rfl,show(⟨#[109]⟩:ByteArray).size<=maxLen by decide,⟨none,0,rfl,show(0:Nat)<140737488355328 by decide,λi hi=>absurd (show i<0 from hi) (by omega)⟩,some ⟨gg,0,none⟩,gc,rfl,show(1:Nat)<140737488355328 by decide,λi hi=>?_⟩;obtain rfl:i=0:=by have:i<1:=hi;omega
 exact⟨gg,0,.slice cp cs.length cc,rfl,g4.1,g4.2.1,g4.2.2.1,g4.2.2.2,hca,show tMain.size<=maxLen by decide⟩
theorem compileO{adr:Nat->Addr}{w:World}{n:OpN}(hk:n.k<6)(ha1:-9223372036854775808<=n.a)(ha2:n.a<=9223372036854775807)(hb1:-9223372036854775808<=n.b)(hb2:n.b<=9223372036854775807)(hS:SY w adr)(hT:TabAt w)(hlo:24<w.heap.size):Calls Tryz.prog 10 #[.string (rTx n.k n.a n.b)] w λe w'=>Below w.heap.size w w'∧∃gg gc,e=.returned (.tuple #[.agg #[.string tM,.slice none 0 0,.slice (some ⟨gg,0,none⟩) 1 gc],.int .i64 0,.int .i64 0])∧ObjAt w' (.agg #[.string tM,.slice none 0 0,.slice (some ⟨gg,0,none⟩) 1 gc]) (OO n):=by
 obtain⟨w0,hw0⟩:∃w0,w0=w.alloc (.cells #[.string ⟨#[]⟩,.slice none 0 0,.slice none 0 0] 39):=⟨_,rfl⟩;have hb0:Below w.heap.size w w0:=by rw[hw0];exact(Below.refl _ _).alloc (Nat.le_refl _) _
 have hz0:w0.heap.size=w.heap.size+1:=by rw[hw0];simp
 have hr0:V3 w0 w.heap.size (.string ⟨#[]⟩) (.slice none 0 0) (.slice none 0 0):=by rw[hw0];exact V3.new3 ..
 have HR:=hid (read_any (s:=rTx n.k n.a n.b) (exprO hk ha1 ha2 hb1 hb2) (hS.keep hb0));unfold RdRes at HR;rw[rkRead hk ha1 ha2 hb1 hb2]at HR;simp only at HR;have HT:=hid (hT.keep hb0);have HB0:=hid hb0;have HR0:=hid hr0;have HZ0:=hid hz0;clear hS hT hb0 hr0 hz0;go_enter Tryz.func10,Tryz.ntmps10;go_upto_region 1 with(fail)
 rw[<-hw0];clear hw0;go_wp2_with (first
  |(go_at_call 17;refine HR.out.mono ?_;rintro e w1 ⟨hb1,ip,n1,c1,dp,n2,c2,dfs,rfl,hI,hD,hm⟩;obtain⟨ip',ic',ei⟩:=hI.slice;obtain⟨rfl,rfl,rfl⟩:ip=ip'∧n1=0∧c1=ic':=(by simpa using ei);obtain⟨dg,dc,pp,pc,ed,d0,d1,d2,d3⟩:=cellsO hD hm;obtain⟨rfl,rfl,rfl⟩:dp=some ⟨dg,0,none⟩∧n2=1∧c2=dc:=(by simpa using ed);have HB1:=hid hb1;have HMO:Hid (∀W,Below w1.heap.size w1 W->Calls Tryz.prog 20 #[.agg #[.string tM,.slice ip 0 c1,.slice (some ⟨dg,0,none⟩) 1 c2]] W λe w'=>MoResO W tM tMain n e w'):=(λW hW=>module1O tM tMain 15 n hk (by have:=HB0.out.size;have:=HB1.out.size;have:=hW.size;omega) (HT.out.keep (HB1.out.trans (hW.mono HB1.out.size))) (by decide) (by decide) (cell_keep hW d0) (cell_keep hW d1) (cell_keep hW d2) (cell_keep hW d3));clear hb1 hI hD hm ei ed d0 d1 d2 d3)
  |(go_at_call 20;refine(HMO.out _ ((Below.refl _ _).alloc (Nat.le_refl _) _)).mono ?_;intro e w2 hr;obtain⟨hb2,gg,gc,rfl,ho⟩:=objO hk hr;have hb12:Below w1.heap.size w1 w2:=(((Below.refl _ _).alloc (Nat.le_refl _) _:Below w1.heap.size w1 (w1.alloc _)).trans (hb2.mono (by simp)));have HB2:=hid (HB1.out.trans (hb12.mono HB1.out.size));have HR2:=hid ((HR0.out.keep HB1.out).keep hb12);have HO:=hid ho;have HZ1:=hid HB1.out.size;obtain⟨r0,r1,r2,rf⟩:=id HR2.out;have rf0:=rf 0;have rf1:=rf 1;have rf2:=rf 2;clear hr hb2 hb12 ho rf))
 obtain⟨s0,s1,s2⟩:=set3_new HR2.out (.string tM) (.slice none 0 0) (.slice (some ⟨gg,0,none⟩) 1 gc);refine bodyPost_ret (v:=.tuple #[.agg #[.string tM,.slice none 0 0,.slice (some ⟨gg,0,none⟩) 1 gc],.int .i64 0,.int .i64 0]) (by simp[results,Tryz.results10,go_sem,s0,s1,s2]) rfl ?_;have hbw:=HB0.out.trans (HB2.out.mono HB0.out.size);refine⟨((hbw.setCell (Nat.le_refl _) _).setCell (Nat.le_refl _) _).setCell (Nat.le_refl _) _,gg,gc,rfl,?_⟩;refine HO.out _ (λb h1 h2=>?_) (by simp);have hne:b≠w.heap.size:=by
  have h3:=HZ0.out;have h4:=HZ1.out;simp at h1;omega
 rw[Below.heap_setCell _ _ _ _ hne,Below.heap_setCell _ _ _ _ hne,Below.heap_setCell _ _ _ _ hne]
structure RgO (n:OpN):Prop where
 a1:-9223372036854775808<=n.a
 a2:n.a<=9223372036854775807
 b1:-9223372036854775808<=n.b
 b2:n.b<=9223372036854775807
theorem hbO{n:OpN}(hk:n.k<6)(hr:RgO n):(hb (OO n)).length+4<=100000:=by
 have h1:=vb_len 10 (fA n.a) (Nat.lt_of_lt_of_le (fA_lt ⟨hr.a1,hr.a2⟩) (by decide));have h2:=vb_len 10 (fA n.b) (Nat.lt_of_lt_of_le (fA_lt ⟨hr.b1,hr.b2⟩) (by decide));have e:∀x y:List Nat,(hdB (OO n)++[]++vb 1++((nb tMain++vb 0++[1]++vb 5++((0::x)++((0::y)++(wb ⟨9+(n.k:Int),0,[]⟩++(wb ⟨5,0,[]⟩++(wb ⟨19,0,[]⟩++[]))))))++[])).length<=x.length+y.length+1000:=λx y=>by
  have k1:(hdB (OO n)).length<=100:=Nat.le_of_ble_eq_true (by kernel_rfl);have k2:(vb 1).length<=10:=Nat.le_of_ble_eq_true (by kernel_rfl);have k3:(nb tMain).length<=100:=Nat.le_of_ble_eq_true (by kernel_rfl);have k4:(vb 0).length<=10:=Nat.le_of_ble_eq_true (by kernel_rfl);have k5:(vb 5).length<=10:=Nat.le_of_ble_eq_true (by kernel_rfl);have k6:(wb ⟨9+(n.k:Int),0,[]⟩).length<=10:=by rcases six hk with h|h|h|h|h|h<;>rw[h]<;>exact Nat.le_of_ble_eq_true (by kernel_rfl)
  have k7:(wb ⟨5,0,[]⟩).length<=20:=Nat.le_of_ble_eq_true (by kernel_rfl);have k8:(wb ⟨19,0,[]⟩).length<=20:=Nat.le_of_ble_eq_true (by kernel_rfl);simp only[List.length_append,List.length_cons,List.length_nil];omega
 have h3:=e (vb (fA n.a)) (vb (fA n.b));have h4:(hb (OO n)).length<=(vb (fA n.a)).length+(vb (fA n.b)).length+1000:=h3;omega
theorem rangeO{n:OpN}(hr:RgO n):RangeO (OO n):=by
 intro g hg x hx;obtain rfl:=List.mem_singleton.1 hg;have hx':x∈codeO n:=hx;simp only[codeO,List.mem_cons,List.not_mem_nil,or_false]at hx';rcases hx' with rfl|rfl|rfl|rfl|rfl
 ·exact⟨hr.a1,hr.a2⟩
 ·exact⟨hr.b1,hr.b2⟩
 all_goals exact⟨show(-9223372036854775808:Int)<=0 by decide,show(0:Int)<=9223372036854775807 by decide⟩
theorem docEO{n:OpN}(hk:n.k<6)(hr:RgO n):docE (OO n)=.tuple #[.string (fileOf (OO n)),.int .i64 0]:=by
 unfold docE encV fileOf;rw[(oo_vals hk),if_pos (hbO hk hr)];rfl
theorem docDO{n:OpN}(hk:n.k<6)(hr:RgO n):docD (fileOf (OO n))=.ok (OO n):=by
 rw[enc_dec (oo_vals hk) (rangeO hr) (hbO hk hr)];show(match sBad (((0:Nat):Int)+((1:Nat):Int)) [GO n] 0 with|some (e,k,i)=>_|none=>_)=_;rw[show(((0:Nat):Int)+((1:Nat):Int))=1 by rfl,oo_bad hk]
theorem fineO{n:OpN}(hk:n.k<6):ObjFine 1 (OO n):=by
 refine⟨(show(⟨#[109]⟩:ByteArray).size<=16 by decide),(show(0:Nat)<=1 by decide),λx hx=>(by cases hx),(show(1:Nat)<=1 by decide),λg hg=>?_⟩;obtain rfl:=List.mem_singleton.1 hg;refine⟨(show tMain.size<=16 by decide),(show(0:Int)<=0 by decide),(show(0:Int)<=20 by decide),(show(5:Nat)<=65535 by decide),λx hx=>?_⟩;have hx':x∈codeO n:=hx;simp only[codeO,List.mem_cons,List.not_mem_nil,or_false]at hx';rcases hx' with rfl|rfl|rfl|rfl|rfl
 ·exact⟨by kernel_rfl,show(0:Nat)<=256 by decide⟩
 ·exact⟨by kernel_rfl,show(0:Nat)<=256 by decide⟩
 ·rcases six hk with h|h|h|h|h|h<;>rw[h]<;>exact⟨by kernel_rfl,show(0:Nat)<=256 by decide⟩
 all_goals exact⟨by kernel_rfl,show(0:Nat)<=256 by decide⟩
structure Grd (w:World) (adr:Nat->Addr):Prop where
 s:SentAt w adr
 k:SentK w adr
 y:SY w adr
 t:TabAt w
 l:24<w.heap.size
theorem Grd.keep{w w':World}{adr:Nat->Addr}(h:Grd w adr)(hb:Below w.heap.size w w'):Grd w' adr:=⟨h.s.keep hb,h.k.keep hb,h.y.keep hb,h.t.keep hb,Nat.lt_of_lt_of_le h.l hb.size⟩
theorem encO{n:OpN}(hk:n.k<6)(hr:RgO n){w:World}{adr:Nat->Addr}{v:Value}(h:Grd w adr)(hO:ObjAt w v (OO n)):Calls Tryz.prog 11 #[v] w λe w'=>e=.returned (.tuple #[.string (fileOf (OO n)),.int .i64 0])∧Below w.heap.size w w':=by
 have:=tarnEnc_any (OO n) v w adr hO h.t h.k (rangeO hr);rw[docEO hk hr]at this;exact this
theorem decO{n:OpN}(hk:n.k<6)(hr:RgO n){w:World}{adr:Nat->Addr}(h:Grd w adr):Calls Tryz.prog 12 #[.string (fileOf (OO n))] w λe w'=>∃ip ic gp gc,e=.returned (.tuple #[.agg #[.string tM,.slice ip 0 ic,.slice gp 1 gc],.int .i64 0,.agg #[.int .i64 0,.int .i64 0]])∧Hid (Below w.heap.size w w'∧ObjAt w' (.agg #[.string tM,.slice ip 0 ic,.slice gp 1 gc]) (OO n)):=by
 refine(tarnDecode_any (fileOf (OO n)) adr w h.t h.s).mono ?_;rintro e w' ⟨hb,nm,ip,il,ic,gp,gl,gc,c,k,i,rfl,hD⟩;rw[docDO hk hr]at hD;obtain⟨rfl,rfl,rfl,hO⟩:=hD;have hA:=hO.at (fineO hk) (by omega);obtain⟨iv,gv,e1,-,hI,hG⟩:=id hA;obtain⟨p1,c1,e2,-⟩:=hI;obtain⟨p2,c2,e3,-⟩:=hG;subst e2 e3;obtain⟨rfl,⟨rfl,rfl,rfl⟩,rfl,rfl,rfl⟩:nm=(OO n).name∧(ip=p1∧il=(OO n).imps.length∧ic=c1)∧gp=p2∧gl=(OO n).globs.length∧gc=c2:=by simpa using e1
 exact⟨ip,ic,gp,gc,rfl,hb,hA⟩
structure PrO (n:OpN) (w:World) (Pb:Nat):Prop where
 ex:∃gp gc,R2 w Pb (.slice gp 1 gc) (.int .i64 0)∧MGAt 0 w (.slice gp 1 gc) [GO n]
theorem PrO.keep{n:OpN}{w w':World}{Pb:Nat}(h:PrO n w Pb)(hb:Below w.heap.size w w'):PrO n w' Pb:=by
 obtain⟨gp,gc,h1,h2⟩:=h.ex;exact⟨gp,gc,h1.keep hb,h2.keep hb⟩
theorem linkO{n:OpN}(hk:n.k<6){w:World}{adr:Nat->Addr}{p:Option Addr}{c:Nat}(h:Grd w adr)(hO:ObjsAt w (.slice p 1 c) [OO n]):Calls Tryz.prog 14 #[.slice p 1 c,.string ⟨#[109,97,105,110]⟩] w λe w'=>∃I:Nat,e=.returned (.tuple #[.pointer (some ⟨I,0,none⟩),.int .i64 0,.int .i64 0])∧Hid (Below w.heap.size w w'∧PrO n w' I):=by
 refine(tarnLink_any [OO n] _ tMain _ adr hO (λO hO=>by obtain rfl:=List.mem_singleton.1 hO;exact⟨show 1*56<=140737488351232 by decide,show 0*24<=140737488351232 by decide⟩) (by decide) h.t h.s).mono ?_;rintro e w2 ⟨hb2,h2⟩;rw[oo_lnk hk]at h2;obtain⟨I,p,m,c,he,-,hR,hG⟩:=h2;rw[oo_img hk]at hG;rw[oo_ent]at hR;obtain⟨q,cap,e2,hG2⟩:=id hG;cases e2;exact⟨I,he,hb2,⟨_,_,hR,hG.low (Nat.zero_le _)⟩⟩
end Go.Proofs.YtblobglfjhilmaaGreatDoor
namespace Go.Proofs.YtblobglfjhilmaaGreatDoor
open Go.RowKit Go.Sort Go.ChangeShapes Go.WideShapes
theorem laid_mem{P:Program}{W:World}{x:String×DataW Unit}:∀{l:List (String×DataW Unit)},laidMet P l W->x∈l->∃r,laidMet P (x::r) W
 |y::r,h,hx=>by
  rcases List.mem_cons.1 hx with rfl|hx
  ·exact⟨r,h⟩
  ·exact laid_mem h.tail hx
theorem star: "*"++ "errors.errorString"= "*errors.errorString":=by decide
theorem Tryz.errRow(u:TypeId)(h:Tryz.prog.typeName? 3 u=some "*errors.errorString"):u=442:=
 typeName_ptr_named (nm:= "errors.errorString") (by rw[star];kernel_rfl) (by kernel_rfl) (by decide) u (by rw[star];exact h)
theorem cells_errS:Tryz.prog.cellsOf 444=1:=by kernel_rfl
theorem sent_get{W:World}{n:String}{g:Nat}{text:List UInt8}{l:List (String×DataW Unit)}(h:laidMet Tryz.prog l W)(hm:(n,DataW.iface "*errors.errorString" (.ptr (.agg [.lit (.string text)])))∈l)(hg:Tryz.prog.globalNamed n=some g)(ht:(Tryz.prog.globals[g]?).map (·.type)=some 62):
 ∃(a:Addr) (s:ByteArray),W.cell? ⟨g,0,none⟩=some (errE a)∧W.cell? a=some (.string s)∧s.data.toList=text∧∃c t,W.heap[a.block]?=some (.cells c t (0,0)):=by
 obtain⟨r,h⟩:=laid_mem h hm;obtain⟨ps,⟨g0,t0,cs0,f0,p0,q0,hg0,ht0,hv0,hd0,_,e0⟩,_,hrows⟩:=h;obtain rfl:=Option.some.inj (hg.symm.trans hg0);obtain rfl:=Option.some.inj (ht.symm.trans ht0);subst e0;obtain⟨l0⟩:=cs0;have ok0:∀u v,l0=[.iface u v]->Value.okWide Tryz.prog W .any 0 u v:=λu v e=>by
  subst e;exact(hrows g 0 (by simp[MemPlace.row])).2 u v (by simpa using World.var?_cell hg0 hv0 0)
 obtain⟨a0,s0,rfl,hc0,hs0,hz0,rfl⟩:=errorString_of_trod Tryz.underlying62 Tryz.errRow Tryz.underlying442 Tryz.underlying444 rfl rfl Tryz.underlying9 cells_errS cells_string hd0 ok0;refine⟨a0,s0,by simpa[errE]using World.var?_cell hg0 hv0 0,hc0,hs0,(hrows a0.block a0.off ?_).1⟩;simp[MemPlace.row]
def L13:List (String×DataW Unit):=[("math/bits.deBruijn32tab",Rows.laid_math_bits_deBruijn32tab),("math/bits.deBruijn64tab",Rows.laid_math_bits_deBruijn64tab),("internal/strconv.uint64pow10",Rows.laid_internal_strconv_uint64pow10),("strconv.ErrRange",Rows.laid_strconv_ErrRange),("strconv.ErrSyntax",Rows.laid_strconv_ErrSyntax),("tarn/fault.Long",Rows.laid_tarn_fault_Long),("tarn/fault.Syntax",Rows.laid_tarn_fault_Syntax),("tarn/fault.Deep",Rows.laid_tarn_fault_Deep),("tarn/fault.Twice",Rows.laid_tarn_fault_Twice),("tarn/fault.Name",Rows.laid_tarn_fault_Name),("tarn/fault.Short",Rows.laid_tarn_fault_Short),("tarn/fault.Sum",Rows.laid_tarn_fault_Sum),("tarn/fault.Form",Rows.laid_tarn_fault_Form),("tarn/fault.Varint",Rows.laid_tarn_fault_Varint),("tarn/fault.Order",Rows.laid_tarn_fault_Order),("tarn/fault.More",Rows.laid_tarn_fault_More),("tarn/fault.Index",Rows.laid_tarn_fault_Index),("tarn/fault.Jump",Rows.laid_tarn_fault_Jump),("tarn/fault.Depth",Rows.laid_tarn_fault_Depth),("tarn/fault.Value",Rows.laid_tarn_fault_Value),("tarn/fault.Missing",Rows.laid_tarn_fault_Missing),("tarn/fault.Arity",Rows.laid_tarn_fault_Arity),("tarn/fault.Entry",Rows.laid_tarn_fault_Entry),("tarn/fault.Big",Rows.laid_tarn_fault_Big),("tarn/object.rows",Rows.laid_tarn_object_rows)]
theorem laid_split{W:World}(h:laidMetH Tryz.prog Rows.reckonsRow.laid W):laidMet Tryz.prog L13 W∧handlesMet Tryz.prog [("errors.errorType",Rows.laid_errors_errorType)] W:=h
def txt:DataW Unit->List UInt8
 |.iface _ (.ptr (.agg [.lit (.string b)]))=>b
 |_=>[]
def kTxt(i:Nat):List UInt8:=([Rows.laid_tarn_fault_Value,Rows.laid_tarn_fault_Index,Rows.laid_tarn_fault_Jump,Rows.laid_tarn_fault_Depth,Rows.laid_tarn_fault_Long,Rows.laid_tarn_fault_Name,Rows.laid_tarn_fault_Short,Rows.laid_tarn_fault_Sum,Rows.laid_tarn_fault_Form,Rows.laid_tarn_fault_Varint,Rows.laid_tarn_fault_Order,Rows.laid_tarn_fault_More,Rows.laid_tarn_fault_Syntax,Rows.laid_tarn_fault_Deep,Rows.laid_tarn_fault_Twice,Rows.laid_tarn_fault_Missing,Rows.laid_tarn_fault_Arity,Rows.laid_tarn_fault_Entry,Rows.laid_tarn_fault_Big].map txt).getD i []
theorem kTxt_ne:∀i,i<19->∀j,j<19->i≠j->kTxt i≠kTxt j:=by decide
theorem sents{W:World}(h:laidMet Tryz.prog L13 W):∀i,i<19->∃(a:Addr) (s:ByteArray),W.cell? ⟨kNum i,0,none⟩=some (errE a)∧W.cell? a=some (.string s)∧s.data.toList=kTxt i∧∃c t,W.heap[a.block]?=some (.cells c t (0,0))
 |0,_=>sent_get (n:= "tarn/fault.Value") h (List.mem_of_getElem? (i:=19) rfl) (by kernel_rfl) (by kernel_rfl)
 |1,_=>sent_get (n:= "tarn/fault.Index") h (List.mem_of_getElem? (i:=16) rfl) (by kernel_rfl) (by kernel_rfl)
 |2,_=>sent_get (n:= "tarn/fault.Jump") h (List.mem_of_getElem? (i:=17) rfl) (by kernel_rfl) (by kernel_rfl)
 |3,_=>sent_get (n:= "tarn/fault.Depth") h (List.mem_of_getElem? (i:=18) rfl) (by kernel_rfl) (by kernel_rfl)
 |4,_=>sent_get (n:= "tarn/fault.Long") h (List.mem_of_getElem? (i:=5) rfl) (by kernel_rfl) (by kernel_rfl)
 |5,_=>sent_get (n:= "tarn/fault.Name") h (List.mem_of_getElem? (i:=9) rfl) (by kernel_rfl) (by kernel_rfl)
 |6,_=>sent_get (n:= "tarn/fault.Short") h (List.mem_of_getElem? (i:=10) rfl) (by kernel_rfl) (by kernel_rfl)
 |7,_=>sent_get (n:= "tarn/fault.Sum") h (List.mem_of_getElem? (i:=11) rfl) (by kernel_rfl) (by kernel_rfl)
 |8,_=>sent_get (n:= "tarn/fault.Form") h (List.mem_of_getElem? (i:=12) rfl) (by kernel_rfl) (by kernel_rfl)
 |9,_=>sent_get (n:= "tarn/fault.Varint") h (List.mem_of_getElem? (i:=13) rfl) (by kernel_rfl) (by kernel_rfl)
 |10,_=>sent_get (n:= "tarn/fault.Order") h (List.mem_of_getElem? (i:=14) rfl) (by kernel_rfl) (by kernel_rfl)
 |11,_=>sent_get (n:= "tarn/fault.More") h (List.mem_of_getElem? (i:=15) rfl) (by kernel_rfl) (by kernel_rfl)
 |12,_=>sent_get (n:= "tarn/fault.Syntax") h (List.mem_of_getElem? (i:=6) rfl) (by kernel_rfl) (by kernel_rfl)
 |13,_=>sent_get (n:= "tarn/fault.Deep") h (List.mem_of_getElem? (i:=7) rfl) (by kernel_rfl) (by kernel_rfl)
 |14,_=>sent_get (n:= "tarn/fault.Twice") h (List.mem_of_getElem? (i:=8) rfl) (by kernel_rfl) (by kernel_rfl)
 |15,_=>sent_get (n:= "tarn/fault.Missing") h (List.mem_of_getElem? (i:=20) rfl) (by kernel_rfl) (by kernel_rfl)
 |16,_=>sent_get (n:= "tarn/fault.Arity") h (List.mem_of_getElem? (i:=21) rfl) (by kernel_rfl) (by kernel_rfl)
 |17,_=>sent_get (n:= "tarn/fault.Entry") h (List.mem_of_getElem? (i:=22) rfl) (by kernel_rfl) (by kernel_rfl)
 |18,_=>sent_get (n:= "tarn/fault.Big") h (List.mem_of_getElem? (i:=23) rfl) (by kernel_rfl) (by kernel_rfl)
 |i+19,h=>absurd h (by omega)
theorem Tryz.et:Tryz.prog.globalNamed "errors.errorType"=some 19:=by kernel_rfl
theorem Tryz.rt:(Tryz.prog.cutTypes.find? (·.1== "internal/reflectlite.rtype")).map (·.2)=some 252:=by kernel_rfl
theorem Tryz.tsize:Tryz.prog.types.size=472:=by kernel_rfl
theorem Tryz.oneRow:((List.range 472).filter λt=>Tryz.prog.rowNamed t [101,114,114,111,114])=[62]:=by kernel_rfl
theorem Tryz.hErr:typeHandle Tryz.prog 62=.pointer (some ⟨27,62,none⟩):=by kernel_rfl
theorem handle_of_laid{W:World}(h:handlesMet Tryz.prog [("errors.errorType",Rows.laid_errors_errorType)] W):W.cell? ⟨19,0,none⟩=some (.iface 252 (.agg #[.pointer (some ⟨27,62,none⟩)])):=by
 obtain⟨name,u,ty,e1,e2,e3,e4,e5⟩:=h _ (List.mem_singleton.2 rfl);have en:name=[101,114,114,111,114]:=(Option.some.inj e1).symm;subst en;obtain rfl:=Option.some.inj (Tryz.rt.symm.trans e2);have hm:ty∈(List.range 472).filter λt=>Tryz.prog.rowNamed t [101,114,114,111,114]:=List.mem_filter.2 ⟨List.mem_range.2 (by rw[<-Tryz.tsize];exact e3),e4⟩;rw[Tryz.oneRow]at hm;obtain rfl:=List.mem_singleton.1 hm;rw[Tryz.hErr]at e5;simpa using World.var?_cell Tryz.et e5 0
theorem sentAt{W:World}(h:laidMetH Tryz.prog Rows.reckonsRow.laid W):∃adr,SentAt W adr:=by
 obtain⟨h1,h2⟩:=laid_split h;obtain⟨adr,hA⟩:=Go.Deep.choose_lt (sents h1);refine⟨adr,λi ⟨_,hi⟩=>?_,λi ⟨_,hi⟩=>?_,λi j ⟨_,hi⟩ ⟨_,hj⟩ hne e=>?_,handle_of_laid h2⟩
 ·obtain⟨s,h,-⟩:=hA i hi;exact h
 ·obtain⟨s,-,-,-,h⟩:=hA i hi;exact h
 ·obtain⟨s,-,h3,h4,-⟩:=hA i hi;obtain⟨s',-,h5,h6,-⟩:=hA j hj;rw[e]at h3;rw[h3]at h5;simp only[Option.some.injEq,Value.string.injEq]at h5;subst h5;exact kTxt_ne i hi j hj hne (h4.symm.trans h6)
theorem ints_of_struct{W:World}{sp:Nat->Bool}{held:Bool}{e:TypeId}{fs:Array Field}{fuel:Nat}{cs:List Value}{zs:List Int}{p:List MemPlace}(hs:Tryz.prog.underlying e=some (.struct fs))
 (hone:∀(i:Nat) (f:Field),fs[i]?=some f->f.offset=i∧Tryz.prog.cellsOf f.type=1) (hint:∀(i:Nat) (f:Field),fs[i]?=some f->Tryz.prog.underlying f.type=some (.int .i64))
 (h:DataW.trod (λ_=>()) Tryz.prog W 0 sp held fuel e cs=some (.agg (zs.map λz=>.lit (.int .i64 z)),p)):∀i,i<fs.size->cs[i]?=some (.int .i64 (zs.getD i 0)):=by
 intro i hi;obtain⟨xs,n,-,hx,-,hlen,hf⟩:=DataW.trod_struct hs h;have hfi:fs[i]?=some fs[i]:=Array.getElem?_eq_getElem hi;obtain⟨ho,hc⟩:=hone i _ hfi;have h1:=hf i _ hfi;rw[ho,hc,List.getElem?_eq_getElem (by omega)]at h1;obtain⟨z,e1,e2,-⟩:=DataW.trod_int (hint i _ hfi) h1;have e3:zs.map (λz=>(DataW.lit (.int .i64 z):DataW Unit))=xs.map (·.1):=by
  have:=congrArg Prod.fst hx;simpa using this
 have e4:(zs.map (λz=>(DataW.lit (.int .i64 z):DataW Unit)))[i]?=some (.lit (.int .i64 z)):=by
  rw[e3,List.getElem?_map,List.getElem?_eq_getElem (by omega),e2];rfl
 rw[List.getElem?_map]at e4;obtain⟨z',h5,h6⟩:=Option.map_eq_some_iff.1 e4;simp only[DataW.lit.injEq,Lit.int.injEq,true_and]at h6;subst h6;rw[one_at rfl e1,List.getD,h5];rfl
def rowData(k:Nat):DataW Unit:=.agg (((List.range 7).map λj=>rowN k j).map λz=>.lit (.int .i64 z))
theorem rows_data:(Rows.laid_tarn_object_rows:DataW Unit)=.agg ((List.range 21).map rowData):=by rfl
theorem cells_row:Tryz.prog.cellsOf 363=7:=by kernel_rfl
theorem fields_ok:(match Tryz.prog.underlying 363 with|some (.struct fs)=>(List.range fs.size).all (λi=>match fs[i]? with|some f=>f.offset==i && Tryz.prog.cellsOf f.type==1 && (match Tryz.prog.underlying f.type with|some (.int .i64)=>true|_=>false)|none=>false) && fs.size==7|_=>false)=true:=by kernel_rfl
theorem tabAt13{W:World}(h1:laidMet Tryz.prog L13 W):TabAt W:=by
 obtain⟨r,h2⟩:=laid_mem (x:=("tarn/object.rows",Rows.laid_tarn_object_rows)) h1 (List.mem_of_getElem? (i:=24) rfl);obtain⟨ps,⟨g0,t0,cs0,f0,p0,q0,hg0,ht0,hv0,hd0,_,e0⟩,_,hrows⟩:=h2;have hg:Tryz.prog.globalNamed "tarn/object.rows"=some 24:=by kernel_rfl
 have ht:(Tryz.prog.globals[24]?).map (·.type)=some 364:=by kernel_rfl
 obtain rfl:=Option.some.inj (hg.symm.trans hg0);obtain rfl:=Option.some.inj (ht.symm.trans ht0);rw[rows_data]at hd0;obtain⟨xs,m,-,hx,hl,hlen,hf⟩:=DataW.trod_array Tryz.underlying364 hd0;obtain⟨fs,hs⟩:∃fs,Tryz.prog.underlying 363=some (.struct fs):=⟨_,Tryz.underlying363⟩;have hok:=fields_ok;rw[hs]at hok;simp only[Bool.and_eq_true,List.all_eq_true,List.mem_range,beq_iff_eq]at hok;obtain⟨hok,h7⟩:=hok;have hone:∀(i:Nat) (f:Field),fs[i]?=some f->(f.offset=i∧Tryz.prog.cellsOf f.type=1)∧Tryz.prog.underlying f.type=some (.int .i64):=by
  intro i f hi;have hlt:i<fs.size:=(Array.getElem?_eq_some_iff.1 hi).1;have:=hok i hlt;rw[hi]at this;simp only[Bool.and_eq_true,beq_iff_eq]at this;refine⟨this.1,?_⟩;have h3:=this.2;split at h3
  ·rename_i h4
   exact h4
  ·cases h3
 intro i hi;have hk:i / 7<21:=by omega
 have h3:=hf (i / 7) hk;rw[cells_row,List.getElem?_eq_getElem (by omega)]at h3;have h4:(xs.map (·.1))[i / 7]?=some (rowData (i / 7)):=by
  have:=congrArg Prod.fst hx;simp only[DataW.agg.injEq]at this;rw[<-this,List.getElem?_map,List.getElem?_range hk];rfl
 rw[List.getElem?_map,List.getElem?_eq_getElem (by omega)]at h4;simp only[Option.map_some,Option.some.injEq]at h4;have h5:DataW.trod (λ_=>()) Tryz.prog W 0 (λ_=>true) false m 363 ((cs0.toList.drop (i / 7*7)).take 7)=some (.agg (((List.range 7).map λj=>rowN (i / 7) j).map λz=>.lit (.int .i64 z)),(xs[i / 7]'(by omega)).2):=by
  rw[h3];exact congrArg some (Prod.ext h4 rfl)
 have h6:=ints_of_struct hs (λi f h=>(hone i f h).1) (λi f h=>(hone i f h).2) h5 (i % 7) (by omega);have h8:=World.var?_cell hg0 hv0 i;rw[h8];rw[List.getElem?_take,if_pos (by omega),List.getElem?_drop,show i / 7*7+i % 7=i by omega]at h6;have h9:((List.range 7).map λj=>rowN (i / 7) j).getD (i % 7) 0=rowsTab.getD i 0:=by
  rw[List.getD,List.getElem?_map,List.getElem?_range (by omega)];simp only[Option.map_some,Option.getD_some,rowN];rw[show i / 7*7+i % 7=i by omega]
 rw[h9]at h6;simpa using h6
theorem tabAt{W:World}(h:laidMetH Tryz.prog Rows.reckonsRow.laid W):TabAt W:=tabAt13 (laid_split h).1
theorem sentK{W:World}{adr:Nat->Addr}(h:SentAt W adr):SentK W adr:=⟨h.c,h.o,h.ne⟩
theorem sy_of{W:World}{adr:Nat->Addr}(h:laidMetH Tryz.prog Rows.reckonsRow.laid W)(hS:SentAt W adr):SY W adr:=by
 obtain⟨h1,-⟩:=laid_split h;obtain⟨a1,s1,e1,-⟩:=sent_get (n:= "strconv.ErrSyntax") (g:=25) h1 (List.mem_of_getElem? (i:=4) rfl) (by kernel_rfl) (by kernel_rfl);obtain⟨a2,s2,e2,-⟩:=sent_get (n:= "strconv.ErrRange") (g:=26) h1 (List.mem_of_getElem? (i:=3) rfl) (by kernel_rfl) (by kernel_rfl);exact⟨hS.c 12 (by omega),hS.c 13 (by omega),hS.c 14 (by omega),hS.c 5 (by omega),hS.c 4 (by omega),⟨_,e1,Or.inr ⟨_,_,rfl⟩⟩,⟨_,e2,Or.inr ⟨_,_,rfl⟩⟩⟩
theorem cell_low{w:World}{b:Nat}{v:Value}(h:w.cell? ⟨b,0,none⟩=some v):b<w.heap.size:=by
 rcases Nat.lt_or_ge b w.heap.size with h1|h1
 ·exact h1
 ·simp[World.cell?,Array.getElem?_eq_none h1]at h
theorem grd_of{W:World}(h:laidMetH Tryz.prog Rows.reckonsRow.laid W):∃adr,Grd W adr:=by
 obtain⟨adr,hS⟩:=sentAt h;exact⟨adr,hS,sentK hS,sy_of h hS,tabAt h,cell_low (tabAt h 0 (by omega))⟩
theorem pow_of{W:World}(h:laidMet Tryz.prog L13 W):Lib.TabIs Tryz.prog W "internal/strconv.uint64pow10" .u64 Lib.pow10Tab:=by
 obtain⟨r,h2⟩:=laid_mem (x:=("internal/strconv.uint64pow10",Rows.laid_internal_strconv_uint64pow10)) h (List.mem_of_getElem? (i:=2) rfl);rw[show(Rows.laid_internal_strconv_uint64pow10:DataW Unit)=Lib.tabData .u64 Lib.pow10Tab from rfl]at h2;exact Lib.tabIs_of_head (g:=18) (t:=166) (by kernel_rfl) (by kernel_rfl) Tryz.underlying166 Tryz.underlying98 (by kernel_rfl) (by kernel_rfl) h2
end Go.Proofs.YtblobglfjhilmaaGreatDoor
namespace Go.Proofs.YtblobglfjhilmaaGreatDoor
open Go.ChangeShapes Go.WideShapes Go.ChangeAt Go.RowKit
noncomputable def low:Nat:=(World.holding Tryz.prog default ⟨#[],#[],[]⟩).heap.size
def natsOf:DataW Unit->List Lit
 |.agg l=>l.filterMap fun|.lit x=>some x|_=>none
 |_=>[]
def cellOf:Lit->Value
 |.int k n=>.int k n
 |.bool b=>.bool b
 |_=>.nilIface
def xTxt(i:Nat):List UInt8:=if i<19 then kTxt i else if i=19 then txt Rows.laid_strconv_ErrSyntax else txt Rows.laid_strconv_ErrRange
def xNum(i:Nat):Nat:=if i<19 then kNum i else if i=19 then 25 else 26
noncomputable def laidWorld(os:Os):World:=
 let w0:=World.holding Tryz.prog os ⟨((List.range 21).map λi=>Obj.cells #[.string ⟨(xTxt i).toArray⟩] 444).toArray,#[],[]⟩
 {w0 with heap:=((((((List.range 21).foldl (λ(h:Array Obj) i=>h.modify (xNum i) fun
  |.cells _ t frozen=>.cells #[.iface 442 (.pointer (some ⟨low+i,0,none⟩))] t frozen
  |o=>o) w0.heap).modify 19 fun
  |.cells _ t frozen=>.cells #[.iface 252 (.agg #[.pointer (some ⟨27,62,none⟩)])] t frozen
  |o=>o).modify 24 fun
  |.cells _ t frozen=>.cells (rowsTab.map λz=>Value.int .i64 z).toArray t frozen
  |o=>o).modify 18 fun
  |.cells _ t frozen=>.cells ((natsOf Rows.laid_internal_strconv_uint64pow10).map cellOf).toArray t frozen
  |o=>o).modify 21 fun
  |.cells _ t frozen=>.cells ((natsOf Rows.laid_math_bits_deBruijn32tab).map cellOf).toArray t frozen
  |o=>o).modify 22 fun
  |.cells _ t frozen=>.cells ((natsOf Rows.laid_math_bits_deBruijn64tab).map cellOf).toArray t frozen
  |o=>o}
def argK:Array Value:=#[.int .i64 0,.int .i64 0,.int .i64 0]
theorem laid_met(os:Os):laidMetH Tryz.prog Rows.reckonsRow.laid ((laidWorld os).forCall (λ_ _=>0) ⟨#[],argK,[]⟩).memory:=
 laidMetH_of_parts (laidMet_of_run3 8 (by kernel_rfl) (by kernel_rfl) (by kernel_rfl)) (by kernel_rfl)
theorem reads(os:Os){H:Type}(enc:TypeId×Value->H):∃places,DataW.whole enc Tryz.prog ((laidWorld os).forCall (λ_ _=>0) ⟨#[],argK,[]⟩).memory Tryz.f3.params.toList Rows.reckonsSpec.vars false argK.toList 8=some ([.lit (.int .i64 0),.lit (.int .i64 0),.lit (.int .i64 0)],[],places):=
 ⟨[],by kernel_rfl⟩
end Go.Proofs.YtblobglfjhilmaaGreatDoor
