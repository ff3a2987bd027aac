import Derived.Test.YtlccndplhfcknaaGreatDoorLeaf2J
import Derived.Test.YtlccndplhfcknaaGreatDoorOrdJ
set_option maxRecDepth 100000
set_option maxHeartbeats 8000000
namespace Go.Proofs.YtlccndplhfcknaaGreatDoor
open Go.RowKit
theorem sameIns_any(code:List LIns)(va vb:Value)(w:World)(hA:CodeAt w va code)(hB:CodeAt w vb code):
 Calls Tryz.prog 49 #[va,vb] w λe w'=>e=.returned (.bool true)∧Below w.heap.size w w':=by
 obtain⟨p,cap,rfl,hs1,hca⟩:=hA.open;obtain⟨q,cbp,rfl,-,hcb⟩:=hB.open;have HA:Hid (∀w',Below w.heap.size w w'->CodeIn w' p code):=hca;have HB:Hid (∀w',Below w.heap.size w w'->CodeIn w' q code):=hcb;clear hA hB hca hcb;go_enter Tryz.func49,Tryz.ntmps49;go_wp2;go_loopw [5] (λi wr=>∃k:Nat,k<=code.length∧i=.int .i64 k∧Below w.heap.size w wr) (λi _=>code.length-(intOf i).toNat)
 case atStart=>exact⟨0,Nat.zero_le _,rfl,Below.refl _ _⟩
 case round=>
  obtain⟨k,hk,rfl,hb⟩:=hrel;by_cases hlt:k<code.length
  ·obtain⟨b,o,ap,an,ac,rfl,x0,x1,x2,hAl⟩:=HA.out _ hb k hlt;obtain⟨b2,o2,ap2,an2,ac2,rfl,y0,y1,y2,hBl⟩:=HB.out _ hb k hlt;obtain⟨ap',ac',e1,hs2,hal⟩:=hAl.open;obtain⟨rfl,rfl,rfl⟩:ap=ap'∧an=code[k].alts.length∧ac=ac':=by simpa using e1
   obtain⟨bp',bc',e2,-,hbl⟩:=hBl.open;obtain⟨rfl,rfl,rfl⟩:ap2=bp'∧an2=code[k].alts.length∧ac2=bc':=by simpa using e2
   have HAL:Hid (∀w',Below wr.heap.size wr w'->AltsIn w' ap code[k].alts):=hal;have HBL:Hid (∀w',Below wr.heap.size wr w'->AltsIn w' ap2 code[k].alts):=hbl;have hk1:(0:Int)<=(k:Int):=by omega
   have hk2:(k:Int)<(code.length:Int):=by omega
   clear hAl hBl hal hbl e1 e2;generalize code[k].op=op at*;generalize code[k].a=a at*;generalize code[k].alts=alts at*;rename World=>W0
   go_wp2;go_quiet (fail);go_wp2;go_loopw [6] (λi wr=>∃j:Nat,j<=alts.length∧i=.int .i64 j∧Hid (Below W0.heap.size W0 wr)∧wr.cell? ⟨b,o+k*3+2,none⟩=some (.slice ap alts.length ac)∧wr.cell? ⟨b2,o2+k*3+2,none⟩=some (.slice ap2 alts.length ac2)) (λi _=>alts.length-(intOf i).toNat)
   case atStart=>exact⟨0,Nat.zero_le _,rfl,below_drewN (Below.refl _ _) _,x2,y2⟩
   case round=>
    obtain⟨j,hj,rfl,hbj,u2,v2⟩:=hrel;clear x0 x1 x2 y0 y1 y2;by_cases hjl:j<alts.length
    ·obtain⟨ab,ao,rfl,t0,t1⟩:=HAL.out _ hbj.out j hjl;obtain⟨ab2,ao2,rfl,s0,s1⟩:=HBL.out _ hbj.out j hjl;have hj1:(0:Int)<=(j:Int):=by omega
     have hj2:(j:Int)<(alts.length:Int):=by omega
     generalize alts[j].tag=tg at*;generalize alts[j].to=tto at*;go_wp2;go_quiet (fail);go_wp2;exact⟨⟨j+1,by omega,by go_num,below_drewN hbj.out _,u2,v2⟩,by simp[intOf];omega⟩
    ·go_wp2;exact⟨⟨k+1,by omega,by go_num,hb.trans (hbj.out.mono hb.size)⟩,by simp[intOf];omega⟩
  ·go_wp2;go_ret;exact⟨rfl,hb⟩
theorem Same_any(O:LObj)(va vb:Value)(w:World)(hA:ObjAt w va O)(hB:ObjAt w vb O):
 Calls Tryz.prog 31 #[va,vb] w λe w'=>e=.returned (.bool true)∧Below w.heap.size w w':=by
 obtain⟨ia,ga,rfl,hsz,hIA,hGA⟩:=hA;obtain⟨ib,gb,rfl,-,hIB,hGB⟩:=hB;obtain⟨ip,ic,rfl,hs1,hia⟩:=hIA.open;obtain⟨gp,gc,rfl,hs2,hga⟩:=hGA.open;obtain⟨iq,id,rfl,-,hib⟩:=hIB.open;obtain⟨gq,gd,rfl,-,hgb⟩:=hGB.open;have HIA:Hid (∀w',Below w.heap.size w w'->ImpsIn w' ip O.imps):=hia;have HIB:Hid (∀w',Below w.heap.size w w'->ImpsIn w' iq O.imps):=hib;have HGA:Hid (∀w',Below w.heap.size w w'->GlobsIn w' gp O.globs):=hga;have HGB:Hid (∀w',Below w.heap.size w w'->GlobsIn w' gq O.globs):=hgb;clear hIA hGA hIB hGB hia hga hib hgb;generalize O.name=nm at*;generalize O.imps=imps at*;generalize O.globs=globs at*;go_enter Tryz.func31,Tryz.ntmps31;go_wp2;go_loopw [5] (λi wr=>∃k:Nat,k<=imps.length∧i=.int .i64 k∧Hid (Below w.heap.size w wr)∧wr.cell? ⟨w.heap.size,1,none⟩=some (.slice ip imps.length ic)∧wr.cell? ⟨w.heap.size,2,none⟩=some (.slice gp globs.length gc)∧wr.cell? ⟨w.heap.size+1,1,none⟩=some (.slice iq imps.length id)∧wr.cell? ⟨w.heap.size+1,2,none⟩=some (.slice gq globs.length gd)∧w.heap.size+1<wr.heap.size) (λi _=>imps.length-(intOf i).toNat)
 case atStart=>exact⟨0,Nat.zero_le _,rfl,((Below.refl _ _).alloc (Nat.le_refl _) _).alloc (by simp) _,by simp,by simp,by simp,by simp,by simp⟩
 case round=>
  obtain⟨k,hk,rfl,hb,q1,q2,q3,q4,hz⟩:=hrel;by_cases hlt:k<imps.length
  ·obtain⟨b,o,rfl,x0,x1,-⟩:=HIA.out _ hb.out k hlt;obtain⟨b2,o2,rfl,y0,y1,-⟩:=HIB.out _ hb.out k hlt;have hk1:(0:Int)<=(k:Int):=by omega
   have hk2:(k:Int)<(imps.length:Int):=by omega
   generalize imps[k].name=n0 at*;generalize imps[k].arity=a0 at*;go_wp2;go_quiet (fail);go_wp2;exact⟨⟨k+1,by omega,by go_num,below_drewN hb.out _,q1,q2,q3,q4,hz⟩,by simp[intOf];omega⟩
  ·go_wp2;go_loopw [6] (λi wr=>∃k:Nat,k<=globs.length∧i=.int .i64 k∧Hid (Below w.heap.size w wr)∧wr.cell? ⟨w.heap.size,2,none⟩=some (.slice gp globs.length gc)∧wr.cell? ⟨w.heap.size+1,2,none⟩=some (.slice gq globs.length gd)∧w.heap.size+1<wr.heap.size) (λi _=>globs.length-(intOf i).toNat)
   case atStart=>exact⟨0,Nat.zero_le _,rfl,hb,q2,q4,hz⟩
   case round=>
    obtain⟨j,hj,rfl,hbj,r2,r4,hzj⟩:=hrel;clear q1 q2 q3 q4 hz hb;by_cases hjl:j<globs.length
    ·obtain⟨b,o,cp,cn,cc,rfl,x0,x1,x2,x3,hCA,-⟩:=HGA.out _ hbj.out j hjl;obtain⟨b2,o2,cp2,cn2,cc2,rfl,y0,y1,y2,y3,hCB,-⟩:=HGB.out _ hbj.out j hjl;have HCA:Hid (CodeAt wr (.slice cp cn cc) globs[j].code):=hCA;have HCB:Hid (CodeAt wr (.slice cp2 cn2 cc2) globs[j].code):=hCB;have hj1:(0:Int)<=(j:Int):=by omega
     have hj2:(j:Int)<(globs.length:Int):=by omega
     have hbs:=hbj.out.size;have lb:b<wr.heap.size:=block_lt_of_cell x0;have lb2:b2<wr.heap.size:=block_lt_of_cell y0;clear hCA hCB;generalize globs[j].name=n0 at*;generalize globs[j].arity=a0 at*;generalize globs[j].exp=e0 at*;generalize globs[j].code=code at*;go_wp2_with (first|(go_at_call 49;refine(sameIns_any code _ _ _ ?_ ?_).mono ?_;exact HCA.out.keep (((Below.refl _ _).alloc (Nat.le_refl _) _).alloc (by simp) _);exact HCB.out.keep (((Below.refl _ _).alloc (Nat.le_refl _) _).alloc (by simp) _);rintro e w3 ⟨rfl,hb3⟩;obtain⟨z0,z1⟩:=bcell hb3))
     have hbf:Below wr.heap.size wr w3:=(((Below.refl _ _).alloc (Nat.le_refl _) _).alloc (by simp) _).trans (hb3.mono (by simp;omega));exact⟨⟨j+1,by omega,by go_num,hbj.out.trans (hbf.mono hbs),cell_keep hbf r2,cell_keep hbf r4,by have:=hbf.size;omega⟩,by simp[intOf];omega⟩
    ·go_wp2;go_ret;exact⟨rfl,hbj.out⟩
theorem cmp_run(a b:ByteArray)(w:World):(callFunc 120 #[.string a,.string b]).run Tryz.prog w=.ok (.value (.int .i64 (cmpB a b))) w:=by
 have h:=@run_callFunc_extern Tryz.prog 120 _ Extern.BytealgCompare.compare Tryz.func120 (by kernel_rfl) (by kernel_rfl) (by kernel_rfl) (by kernel_rfl);rw[h,Lib.run_compareString];rfl
theorem Compare_any(a b:ByteArray)(w:World):Calls Tryz.prog 88 #[.string a,.string b] w λe w'=>e=.returned (.int .i64 (cmpB a b))∧w'=w:=by
 have h:=cmp_run;go_enter Tryz.func88,Tryz.ntmps88;go_wp2;go_ret;exact⟨rfl,rfl⟩
theorem closure_any(a b:ByteArray)(n:Int)(w:World):Calls Tryz.prog 87 #[.agg #[.string a,.int .i64 n],.string b] w λe w'=>e=.returned (.int .i64 (cmpB a b))∧Below w.heap.size w w':=by
 go_enter Tryz.func87,Tryz.ntmps87;go_wp2_with (first|(go_at_call 88;refine(Compare_any _ _ _).mono ?_;rintro e w' ⟨rfl,rfl⟩))
 go_ret;exact⟨rfl,(Below.refl _ _).alloc (Nat.le_refl _) _⟩
theorem int_eq{k:IntKind}{a b:Int}(h:a=b):Value.int k a=.int k b:=by rw[h]
theorem search_any(l:List LImp)(v:Value)(n:ByteArray)(w:World)(hI:ImpsAt w v l)(hr:Rising l):
 Calls Tryz.prog 86 #[v,.string n,.func (.func 87) #[] #[]] w λe w'=>(∃k:Int,e=.returned (.tuple #[.int .i64 k,.bool (hasN l n)]))∧Below w.heap.size w w':=by
 obtain⟨p,cap,rfl,hs1,hcell⟩:=hI.open;have HC:Hid (∀w',Below w.heap.size w w'->ImpsIn w' p l):=hcell;have HR:Hid (Rising l):=hr;clear hcell hI hr;go_enter Tryz.func86,Tryz.ntmps86;go_wp2;go_loopw [9,10] (λs t wr=>∃i j:Nat,i<=j∧j<=l.length∧s=.int .i64 i∧t=.int .i64 j∧Hid (Sides l n i j)∧Below w.heap.size w wr) (λs t _=>(intOf t).toNat-(intOf s).toNat)
 case atStart=>exact⟨0,l.length,Nat.zero_le _,Nat.le_refl _,rfl,rfl,⟨λ_ _ h=>absurd h (by omega),λa h1 h2=>absurd h1 (by omega)⟩,Below.refl _ _⟩
 case round=>
  obtain⟨i,j,hij,hjl,rfl,rfl,hs,hb⟩:=hrel;by_cases hlt:i<j
  ·obtain⟨b,o,rfl,c0,c1,_⟩:=HC.out _ hb ((i+j) / 2) (by omega);have e2:(((i:Int)+(j:Int)) / 2).toNat=(i+j) / 2:=by omega
   have HH:(i+j) / 2<l.length:=by omega
   generalize hnm:(l[(i+j) / 2]'HH).name=nm at*;generalize har:(l[(i+j) / 2]'HH).arity=ar at*;have HN:Hid ((l[(i+j) / 2]'HH).name=nm):=hnm;clear hnm har;go_wp2_with (first|(go_at_call 87;refine(closure_any _ _ _ _).mono ?_;rintro e w' ⟨rfl,hb2⟩))
   case roundEnd=>exact⟨⟨(i+j) / 2+1,j,by omega,hjl,int_eq (by omega),rfl,hs.out.left HR.out HH (by rw[HN.out];assumption),hb.trans (hb2.mono hb.size)⟩,by simp[intOf];omega⟩
   case roundEnd=>exact⟨⟨i,(i+j) / 2,by omega,by omega,rfl,int_eq (by omega),hs.out.right HR.out HH (by rw[HN.out];omega),hb.trans (hb2.mono hb.size)⟩,by simp[intOf];omega⟩
  ·obtain rfl:i=j:=by omega
   by_cases hil:i<l.length
   ·obtain⟨b,o,rfl,c0,c1,_⟩:=HC.out _ hb i hil;have HF:Hid (hasN l n=(cmpB l[i].name n==0)):=hs.out.found HR.out hil;go_wp2_with (first|(go_at_call 87;refine(closure_any _ _ _ _).mono ?_;rintro e w' ⟨rfl,hb2⟩))
    go_ret2
    exact⟨⟨_,by rw[HF.out];rfl⟩,hb.trans (hb2.mono hb.size)⟩
   ·have HF:Hid (hasN l n=false):=hs.out.none hil;go_wp2;go_ret2
    exact⟨⟨_,by rw[HF.out];rfl⟩,hb⟩
theorem Imported_any(l:List LImp)(v:Value)(n:ByteArray)(w:World)(hI:ImpsAt w v l)(hr:Rising l):
 Calls Tryz.prog 72 #[v,.string n] w λe w'=>e=.returned (.bool (hasN l n))∧Below w.heap.size w w':=by
 have HI:Hid (ImpsAt w v l):=hI;have HR:Hid (Rising l):=hr;clear hI hr;go_enter Tryz.func72,Tryz.ntmps72;go_wp2_with (first|(go_at_call 86;refine(search_any l _ _ _ HI.out HR.out).mono ?_;rintro e w' ⟨⟨k,rfl⟩,hb2⟩))
 go_ret;exact⟨rfl,hb2⟩
end Go.Proofs.YtlccndplhfcknaaGreatDoor
