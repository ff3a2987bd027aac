import Derived.Ground.SlsfProg
import Derived.Shelf.SlSortCmp.WholeK
import Derived.Shelf.Sort.Plain
import Derived.LaidEql
import Derived.RowKitTokens
import Derived.Test.YtcacpmkdfnmhaaaGreatDoorVarintJ
set_option linter.unusedSimpArgs false
set_option maxHeartbeats 4000000
open Go renaming Calls->Av,TypeId->AX,Value->X,World->Q,run_callFunc_extern->Bj
open Go.Ending renaming returned->F
open Go.Instr renaming typeAssert->Arb
open Go.IntKind renaming i64->C
open Go.Proofs.Tryz renaming prog->Aa,underlying9->Bg
open Go.Value renaming agg->T,bool->A,iface->Z,int->V,pointer->J,tuple->R
open Option renaming none->N,some->I
namespace Go.Proofs.YtcacpmkdfnmhaaaGreatDoor
open Go.Shelf
def Tryz.d4:Go.Shelf.Ren:=⟨fun|190=>77|125=>117|258=>127|128=>177|129=>178|302=>195|303=>196|304=>197|305=>198|306=>199|307=>200|308=>201|309=>202|310=>203|333=>239|329=>223|330=>224|334=>240|335=>241|336=>242|344=>264|n=>n,fun|31=>22|9=>9|3=>3|46=>213|0=>0|51=>211|53=>277|4=>4|183=>321|182=>320|131=>221|5=>5|218=>371|222=>375|228=>395|229=>302|n=>n,fun|n=>n⟩
theorem Tryz.eV:Go.Proofs.Lays.n190 Aa Tryz.d4:={
 mixed:=O3
 f125:=Tryz.func117.trans (congrArg I O3)
 f128:=Tryz.func177.trans (congrArg I O3)
 f129:=Tryz.func178.trans (congrArg I O3)
 f190:=Tryz.func77.trans (congrArg I O3)
 f258:=Tryz.func127.trans (congrArg I O3)
 f302:=Tryz.func195.trans (congrArg I O3)
 f303:=Tryz.func196.trans (congrArg I O3)
 f304:=Tryz.func197.trans (congrArg I O3)
 f305:=Tryz.func198.trans (congrArg I O3)
 f306:=Tryz.func199.trans (congrArg I O3)
 f307:=Tryz.func200.trans (congrArg I O3)
 f308:=Tryz.func201.trans (congrArg I O3)
 f309:=Tryz.func202.trans (congrArg I O3)
 f310:=Tryz.func203.trans (congrArg I O3)
 f329:=Tryz.func223.trans (congrArg I O3)
 f330:=Tryz.func224.trans (congrArg I O3)
 f333:=Tryz.func239.trans (congrArg I O3)
 f334:=Tryz.func240.trans (congrArg I O3)
 f335:=Tryz.func241.trans (congrArg I O3)
 f336:=Tryz.func242.trans (congrArg I O3)
 f344:=Tryz.func264.trans (congrArg I O3)
 t0:=Tryz.underlying0
 a0:=Tryz.isAgg0
 z0:=Tryz.sizeOf0
 v0:=Tryz.zeroValue0
 t3:=Tryz.underlying3
 a3:=Tryz.isAgg3
 z3:=Tryz.sizeOf3
 v3:=Tryz.zeroValue3
 t4:=Tryz.underlying4
 a4:=Tryz.isAgg4
 z4:=Tryz.sizeOf4
 v4:=Tryz.zeroValue4
 t5:=Tryz.underlying5
 a5:=Tryz.isAgg5
 z5:=Tryz.sizeOf5
 v5:=Tryz.zeroValue5
 t9:=Bg
 a9:=Tryz.isAgg9
 z9:=Tryz.sizeOf9
 v9:=Tryz.zeroValue9
 t31:=Tryz.underlying22
 a31:=Tryz.isAgg22
 z31:=Tryz.sizeOf22
 v31:=Tryz.zeroValue22
 t46:=Tryz.underlying213
 a46:=Tryz.isAgg213
 z46:=Tryz.sizeOf213
 v46:=Tryz.zeroValue213
 t51:=Tryz.underlying211
 a51:=Tryz.isAgg211
 z51:=Tryz.sizeOf211
 v51:=Tryz.zeroValue211
 t53:=Tryz.underlying277
 a53:=Tryz.isAgg277
 z53:=Tryz.sizeOf277
 v53:=Tryz.zeroValue277
 t131:=Tryz.underlying221
 a131:=Tryz.isAgg221
 z131:=Tryz.sizeOf221
 v131:=Tryz.zeroValue221
 t182:=Tryz.underlying320
 a182:=Tryz.isAgg320
 z182:=Tryz.sizeOf320
 v182:=Tryz.zeroValue320
 t183:=Tryz.underlying321
 a183:=Tryz.isAgg321
 z183:=Tryz.sizeOf321
 v183:=Tryz.zeroValue321
 t218:=Tryz.underlying371
 a218:=Tryz.isAgg371
 z218:=Tryz.sizeOf371
 v218:=Tryz.zeroValue371
 t222:=Tryz.underlying375
 a222:=Tryz.isAgg375
 z222:=Tryz.sizeOf375
 v222:=Tryz.zeroValue375
 t228:=Tryz.underlying395
 a228:=Tryz.isAgg395
 z228:=Tryz.sizeOf395
 v228:=Tryz.zeroValue395
 t229:=Tryz.underlying302
 a229:=Tryz.isAgg302
 z229:=Tryz.sizeOf302
 v229:=Tryz.zeroValue302}
def Tryz.d0:Go.Shelf.Ren:=⟨fun|6=>67|15=>117|14=>116|28=>177|29=>178|20=>169|21=>170|22=>171|23=>172|24=>173|25=>174|26=>175|27=>176|46=>222|47=>223|48=>224|49=>225|50=>226|57=>255|n=>n,fun|22=>38|24=>74|25=>192|3=>3|39=>213|0=>0|53=>211|55=>277|4=>4|46=>321|45=>320|50=>221|5=>5|9=>9|66=>371|70=>375|76=>395|77=>302|n=>n,fun|n=>n⟩
theorem Tryz.ee:Go.Proofs.SlLaysF0.n6 Aa Tryz.d0:={
 mixed:=O3
 f6:=⟨Tryz.f67.name,O4,Tryz.func67.trans (congrArg I O3)⟩
 f14:=⟨Tryz.f116.name,O4,Tryz.func116.trans (congrArg I O3)⟩
 f15:=Tryz.func117.trans (congrArg I O3)
 f20:=⟨Tryz.f169.name,O4,Tryz.func169.trans (congrArg I O3)⟩
 f21:=⟨Tryz.f170.name,O4,Tryz.func170.trans (congrArg I O3)⟩
 f22:=⟨Tryz.f171.name,O4,Tryz.func171.trans (congrArg I O3)⟩
 f23:=⟨Tryz.f172.name,O4,Tryz.func172.trans (congrArg I O3)⟩
 f24:=⟨Tryz.f173.name,O4,Tryz.func173.trans (congrArg I O3)⟩
 f25:=⟨Tryz.f174.name,O4,Tryz.func174.trans (congrArg I O3)⟩
 f26:=⟨Tryz.f175.name,O4,Tryz.func175.trans (congrArg I O3)⟩
 f27:=⟨Tryz.f176.name,O4,Tryz.func176.trans (congrArg I O3)⟩
 f28:=Tryz.func177.trans (congrArg I O3)
 f29:=Tryz.func178.trans (congrArg I O3)
 f46:=⟨Tryz.f222.name,O4,Tryz.func222.trans (congrArg I O3)⟩
 f47:=Tryz.func223.trans (congrArg I O3)
 f48:=Tryz.func224.trans (congrArg I O3)
 f49:=⟨Tryz.f225.name,O4,Tryz.func225.trans (congrArg I O3)⟩
 f50:=⟨Tryz.f226.name,O4,Tryz.func226.trans (congrArg I O3)⟩
 f57:=⟨Tryz.f255.name,O4,Tryz.func255.trans (congrArg I O3)⟩
 t0:=Tryz.underlying0
 a0:=Tryz.isAgg0
 z0:=Tryz.sizeOf0
 v0:=Tryz.zeroValue0
 t3:=Tryz.underlying3
 a3:=Tryz.isAgg3
 z3:=Tryz.sizeOf3
 v3:=Tryz.zeroValue3
 t4:=Tryz.underlying4
 a4:=Tryz.isAgg4
 z4:=Tryz.sizeOf4
 v4:=Tryz.zeroValue4
 t5:=Tryz.underlying5
 a5:=Tryz.isAgg5
 z5:=Tryz.sizeOf5
 v5:=Tryz.zeroValue5
 t9:=Bg
 a9:=Tryz.isAgg9
 z9:=Tryz.sizeOf9
 v9:=Tryz.zeroValue9
 t22:=Tryz.underlying38
 a22:=Tryz.isAgg38
 z22:=Tryz.sizeOf38
 v22:=Tryz.zeroValue38
 t25:=Tryz.underlying192
 a25:=Tryz.isAgg192
 z25:=Tryz.sizeOf192
 v25:=Tryz.zeroValue192
 t39:=Tryz.underlying213
 a39:=Tryz.isAgg213
 z39:=Tryz.sizeOf213
 v39:=Tryz.zeroValue213
 t45:=Tryz.underlying320
 a45:=Tryz.isAgg320
 z45:=Tryz.sizeOf320
 v45:=Tryz.zeroValue320
 t46:=Tryz.underlying321
 a46:=Tryz.isAgg321
 z46:=Tryz.sizeOf321
 v46:=Tryz.zeroValue321
 t50:=Tryz.underlying221
 a50:=Tryz.isAgg221
 z50:=Tryz.sizeOf221
 v50:=Tryz.zeroValue221
 t53:=Tryz.underlying211
 a53:=Tryz.isAgg211
 z53:=Tryz.sizeOf211
 v53:=Tryz.zeroValue211
 t55:=Tryz.underlying277
 a55:=Tryz.isAgg277
 z55:=Tryz.sizeOf277
 v55:=Tryz.zeroValue277
 t66:=Tryz.underlying371
 a66:=Tryz.isAgg371
 z66:=Tryz.sizeOf371
 v66:=Tryz.zeroValue371
 t70:=Tryz.underlying375
 a70:=Tryz.isAgg375
 z70:=Tryz.sizeOf375
 v70:=Tryz.zeroValue375
 t76:=Tryz.underlying395
 a76:=Tryz.isAgg395
 z76:=Tryz.sizeOf395
 v76:=Tryz.zeroValue395
 t77:=Tryz.underlying302
 a77:=Tryz.isAgg302
 z77:=Tryz.sizeOf302
 v77:=Tryz.zeroValue302}
def Tryz.d2:Go.Shelf.Ren:=⟨fun|6=>74|15=>117|14=>126|28=>177|29=>178|20=>187|21=>188|22=>189|23=>190|24=>191|25=>192|26=>193|27=>194|46=>236|47=>223|48=>224|49=>237|50=>238|57=>263|n=>n,fun|22=>39|24=>77|25=>202|3=>3|39=>213|0=>0|53=>211|55=>277|4=>4|46=>321|45=>320|50=>221|5=>5|9=>9|66=>371|70=>375|76=>395|77=>302|n=>n,fun|n=>n⟩
theorem Tryz.ec:Go.Proofs.SlLaysF0.n6 Aa Tryz.d2:={
 mixed:=O3
 f6:=⟨Tryz.f74.name,O4,Tryz.func74.trans (congrArg I O3)⟩
 f14:=⟨Tryz.f126.name,O4,Tryz.func126.trans (congrArg I O3)⟩
 f15:=Tryz.func117.trans (congrArg I O3)
 f20:=⟨Tryz.f187.name,O4,Tryz.func187.trans (congrArg I O3)⟩
 f21:=⟨Tryz.f188.name,O4,Tryz.func188.trans (congrArg I O3)⟩
 f22:=⟨Tryz.f189.name,O4,Tryz.func189.trans (congrArg I O3)⟩
 f23:=⟨Tryz.f190.name,O4,Tryz.func190.trans (congrArg I O3)⟩
 f24:=⟨Tryz.f191.name,O4,Tryz.func191.trans (congrArg I O3)⟩
 f25:=⟨Tryz.f192.name,O4,Tryz.func192.trans (congrArg I O3)⟩
 f26:=⟨Tryz.f193.name,O4,Tryz.func193.trans (congrArg I O3)⟩
 f27:=⟨Tryz.f194.name,O4,Tryz.func194.trans (congrArg I O3)⟩
 f28:=Tryz.func177.trans (congrArg I O3)
 f29:=Tryz.func178.trans (congrArg I O3)
 f46:=⟨Tryz.f236.name,O4,Tryz.func236.trans (congrArg I O3)⟩
 f47:=Tryz.func223.trans (congrArg I O3)
 f48:=Tryz.func224.trans (congrArg I O3)
 f49:=⟨Tryz.f237.name,O4,Tryz.func237.trans (congrArg I O3)⟩
 f50:=⟨Tryz.f238.name,O4,Tryz.func238.trans (congrArg I O3)⟩
 f57:=⟨Tryz.f263.name,O4,Tryz.func263.trans (congrArg I O3)⟩
 t0:=Tryz.underlying0
 a0:=Tryz.isAgg0
 z0:=Tryz.sizeOf0
 v0:=Tryz.zeroValue0
 t3:=Tryz.underlying3
 a3:=Tryz.isAgg3
 z3:=Tryz.sizeOf3
 v3:=Tryz.zeroValue3
 t4:=Tryz.underlying4
 a4:=Tryz.isAgg4
 z4:=Tryz.sizeOf4
 v4:=Tryz.zeroValue4
 t5:=Tryz.underlying5
 a5:=Tryz.isAgg5
 z5:=Tryz.sizeOf5
 v5:=Tryz.zeroValue5
 t9:=Bg
 a9:=Tryz.isAgg9
 z9:=Tryz.sizeOf9
 v9:=Tryz.zeroValue9
 t22:=Tryz.underlying39
 a22:=Tryz.isAgg39
 z22:=Tryz.sizeOf39
 v22:=Tryz.zeroValue39
 t25:=Tryz.underlying202
 a25:=Tryz.isAgg202
 z25:=Tryz.sizeOf202
 v25:=Tryz.zeroValue202
 t39:=Tryz.underlying213
 a39:=Tryz.isAgg213
 z39:=Tryz.sizeOf213
 v39:=Tryz.zeroValue213
 t45:=Tryz.underlying320
 a45:=Tryz.isAgg320
 z45:=Tryz.sizeOf320
 v45:=Tryz.zeroValue320
 t46:=Tryz.underlying321
 a46:=Tryz.isAgg321
 z46:=Tryz.sizeOf321
 v46:=Tryz.zeroValue321
 t50:=Tryz.underlying221
 a50:=Tryz.isAgg221
 z50:=Tryz.sizeOf221
 v50:=Tryz.zeroValue221
 t53:=Tryz.underlying211
 a53:=Tryz.isAgg211
 z53:=Tryz.sizeOf211
 v53:=Tryz.zeroValue211
 t55:=Tryz.underlying277
 a55:=Tryz.isAgg277
 z55:=Tryz.sizeOf277
 v55:=Tryz.zeroValue277
 t66:=Tryz.underlying371
 a66:=Tryz.isAgg371
 z66:=Tryz.sizeOf371
 v66:=Tryz.zeroValue371
 t70:=Tryz.underlying375
 a70:=Tryz.isAgg375
 z70:=Tryz.sizeOf375
 v70:=Tryz.zeroValue375
 t76:=Tryz.underlying395
 a76:=Tryz.isAgg395
 z76:=Tryz.sizeOf395
 v76:=Tryz.zeroValue395
 t77:=Tryz.underlying302
 a77:=Tryz.isAgg302
 z77:=Tryz.sizeOf302
 v77:=Tryz.zeroValue302}
end Go.Proofs.YtcacpmkdfnmhaaaGreatDoor
namespace Go.Proofs.YtcacpmkdfnmhaaaGreatDoor
open Go.RowKit Go.Extern.Stop Go.Stop Go.Extern
theorem Tryz.dn(b:X)(a:Q):(callFunc 61 #[Z 444 b]).run Aa a=.ok (.value (Z 241 (T #[J (I ⟨27,444,N⟩)]))) a:=O3
theorem Tryz.cH(a:Q):(callFunc 325 #[T #[J (I ⟨27,444,N⟩)]]).run Aa a=.ok (.value (A true)) a:=O3
theorem Tryz.ce(a:X)(b:Q):(Go.method 574 241 a "Comparable").run Aa b=.ok (325,a) b:=O3
theorem Tryz.dz:(Aa.info? 444).map (·.comparable)=I true:=O3
theorem Tryz.dy:(Aa.info? 446).map (·.size)=I 1:=O3
theorem Tryz.eH(b:X)(c:AX)(a:Q):(Arb (Z 444 b) c 243 true).run Aa a=.ok (R #[.nilIface,A false]) a:=run_typeAssert_lacksB Tryz.underlying243 O3 O3 b c a
theorem Tryz.db(b:X)(c:AX)(a:Q):(Arb (Z 444 b) c 246 true).run Aa a=.ok (R #[.nilIface,A false]) a:=run_typeAssert_lacksB Tryz.underlying246 O3 O3 b c a
theorem Tryz.cS(b:X)(c:AX)(a:Q):(Arb (Z 444 b) c 247 true).run Aa a=.ok (R #[.nilIface,A false]) a:=run_typeAssert_lacksB Tryz.underlying247 O3 O3 b c a
theorem Tryz.en(b:X)(c:AX)(a:Q):(Arb (Z 109 b) c 243 true).run Aa a=.ok (R #[.nilIface,A false]) a:=run_typeAssert_lacksB Tryz.underlying243 O3 O3 b c a
theorem Tryz.du(a:X)(c:AX)(b:Q):(Arb (Z 109 a) c 246 true).run Aa b=.ok (R #[Z 109 a,A true]) b:=run_typeAssert_hasB Tryz.underlying246 O3 a c b
theorem Tryz.cW(a:X)(b:Q):(Go.method 574 109 a "Unwrap").run Aa b=.ok (318,a) b:=O3
theorem Aa3(a:Addr)(b:Q):
 Av Aa 31 #[Z 444 (J (I a)),Z 444 (J (I a))] b λc g=>c=F (A true)/\g=b:=by
 let ⟨j,e,d⟩:=AB.1 Tryz.dz
 let ⟨k,f,i⟩:=AB.1 Tryz.dy
 have m:=Tryz.dn;have cT:=Tryz.cH;have l:=Tryz.ce;have h:=run_eql_iface_ptr_same (P:=Aa) b a Tryz.underlying63 Tryz.underlying444 e d f;go_enter Tryz.func31,Tryz.ntmps31;go_wp2;apply wp_loop_rounds 1;rw[rounds_succ];go_wp2;go_ret;simp
theorem Adr(b c:Addr)(d cb:Array X)(k tb:AX)(a:Q)(j:b≠c)(f:a.heap[b.block]?=I (.cells d k (0,0)))(hb:a.heap[c.block]?=I (.cells cb tb (0,0))):
 Av Aa 31 #[Z 444 (J (I b)),Z 444 (J (I c))] a λe l=>e=F (A false)/\l=a:=by
 let ⟨o,h,g⟩:=AB.1 Tryz.dz
 let ⟨p,i,n⟩:=AB.1 Tryz.dy
 have s:=Tryz.dn;have cT:=Tryz.cH;have q:=Tryz.ce;have r:=Tryz.eH;have t:=Tryz.db;have u:=Tryz.cS;have m:=run_eql_iface_ptr_other (P:=Aa) a Tryz.underlying63 Tryz.underlying444 h g i O1 j f hb;go_enter Tryz.func31,Tryz.ntmps31;go_wp2;apply wp_loop_rounds 1;rw[rounds_succ];go_wp2;go_ret;simp
theorem ZM(a:X)(b c:Int)(d:Q):
 Av Aa 318 #[T #[a,V C b,V C c]] d λe f=>e=F a/\f=d.alloc (.cells #[a,V C b,V C c] 109):=by
 go_wp2;go_ret;simp
theorem Aez(b:Addr)(h i:Int)(a:Q):
 Av Aa 31 #[Z 109 (T #[Z 444 (J (I b)),V C h,V C i]),Z 444 (J (I b))] a λc d=>c=F (A true)/\Below a.heap.size a d:=by
 let ⟨n,f,e⟩:=AB.1 Tryz.dz
 let ⟨o,g,l⟩:=AB.1 Tryz.dy
 have s:=Tryz.dn;have cT:=Tryz.cH;have p:=Tryz.ce;have r:=Tryz.en;have t:=Tryz.du;have q:=Tryz.cW;have k:=λa=>run_eql_iface_ptr_same a b Tryz.underlying63 Tryz.underlying444 f e g;have m:=λj=>run_eql_iface_types 109 444 j (J (I b)) Tryz.underlying63 nofun a;go_enter Tryz.func31,Tryz.ntmps31;go_wp2;refine wp_loop_rounds 2 ?_;rw[rounds_succ];go_wp2_with (first|go_in|(go_at_call 318;refine(ZM _ _ _ _).mono ?_;rintro c d ⟨rfl,rfl⟩))
 rw[rounds_succ];go_wp2;go_ret;exact⟨rfl,bA⟩
theorem Acp(c:X)(a:Q):
 Av Aa 32 #[.nilIface,c] a λb d=>b=F (A false)/\d=a:=by
 go_wp2;go_ret;simp
theorem Tryz.vP(b:Addr)(a:Q):(ReflectliteValue.unpack (Z 111 (J (I b)))).run Aa a
 =.ok (T #[J (I ⟨27,111,N⟩),J (I ⟨a.heap.size,0,N⟩),V .u64 150]) (a.alloc (.cells #[J (I b)] 111)):=O3
theorem Tryz.tP(b:Addr)(a:Q):(ReflectliteValue.methodAny (ReflectliteValue.valueError "reflectlite.Value.Type" 0) (λc _ _ _=>ReflectliteType.toType c) #[T #[J (I ⟨27,111,N⟩),J (I b),V .u64 150]]).run Aa a
 =.ok (Z 241 (T #[J (I ⟨27,111,N⟩)])) a:=rfl
theorem Tryz.eL(a:X)(b:Q):(Go.method 574 241 (T #[a]) "Kind").run Aa b=.ok (314,a) b:=O3
theorem Tryz.kP(a:Q):((ReflectliteType.abiMethod λc=>Functor.map (λb:Nat=>Value.int IntKind.u8 (b:Int)) (Rtype.kind c)) #[J (I ⟨27,111,N⟩)]).run Aa a=.ok (V .u8 22) a:=O3
theorem Tryz.kF(a:Q):((ReflectliteType.abiMethod λc=>Functor.map (λb:Nat=>Value.int IntKind.u8 (b:Int)) (Rtype.kind c)) #[J (I ⟨27,109,N⟩)]).run Aa a=.ok (V .u8 25) a:=O3
theorem UY(d:Sem X)(b:AX->Addr->Nat->Nat->Sem X)(c:X):
 ReflectliteValue.method d b #[c]=(do match <-ReflectliteValue.parts c with|none=>d|some (t,a,fl)=>b t a fl (fl % 32)):=rfl
theorem Tryz.fR(a:Addr)(b:Q):(ReflectliteValue.parts (T #[J (I ⟨27,111,N⟩),J (I a),V .u64 150])).run Aa b=.ok (I (111,a,150)) b:=O3
theorem Tryz.e2(b d:Addr)(a:Q)(c:a.cell? b=I (J (I d))):
 (ReflectliteValue.method (ReflectliteValue.valueError "reflectlite.Value.IsNil" 0) ReflectliteValue.isNil #[T #[J (I ⟨27,111,N⟩),J (I b),V .u64 150]]).run Aa a=.ok (A false) a:=by
 rw[UY];simp[Sem.run_bind,Tryz.fR,Result.andThen];simp[ReflectliteValue.isNil,loadVar,isAgg,underlying,Tryz.underlying111,c,Result.andThen]
theorem Tryz.eJ(a:X)(b:Q):(Go.method 574 241 (T #[a]) "Elem").run Aa b=.ok (326,T #[a]) b:=O3
theorem Tryz.ep(a:X)(b:Q):(Go.method 574 241 (T #[a]) "Implements").run Aa b=.ok (327,T #[a]) b:=O3
theorem Tryz.dX(a:X)(b:Q):(Go.method 574 241 (T #[a]) "AssignableTo").run Aa b=.ok (324,T #[a]) b:=O3
theorem Tryz.fO(a:Q):(ReflectliteType.method ReflectliteType.elem #[T #[J (I ⟨27,111,N⟩)]]).run Aa a=.ok (Z 241 (T #[J (I ⟨27,109,N⟩)])) a:=O3
theorem Tryz.fX(a:Q):(ReflectliteType.relation "Implements" ReflectliteType.implements_ #[T #[J (I ⟨27,109,N⟩)],Z 241 (T #[J (I ⟨27,63,N⟩)])]).run Aa a=.ok (A true) a:=O3
theorem Tryz.gt(b:X)(a:Q):(ReflectliteType.typeOf #[Z 109 b]).run Aa a=.ok (Z 241 (T #[J (I ⟨27,109,N⟩)])) a:=rfl
theorem Tryz.gB(b:X)(a:Q):(ReflectliteType.typeOf #[Z 444 b]).run Aa a=.ok (Z 241 (T #[J (I ⟨27,444,N⟩)])) a:=rfl
theorem Tryz.gm(a:Q):(ReflectliteType.relation "AssignableTo" ReflectliteType.assignableTo #[T #[J (I ⟨27,109,N⟩)],Z 241 (T #[J (I ⟨27,109,N⟩)])]).run Aa a=.ok (A true) a:=O3
theorem Tryz.gI(a:Q):(ReflectliteType.relation "AssignableTo" ReflectliteType.assignableTo #[T #[J (I ⟨27,444,N⟩)],Z 241 (T #[J (I ⟨27,109,N⟩)])]).run Aa a=.ok (A false) a:=O3
theorem Tryz.vF(b c d:X)(a:Q):(ReflectliteValue.unpack (Z 109 (T #[b,c,d]))).run Aa a
 =.ok (T #[J (I ⟨27,109,N⟩),J (I ⟨a.heap.size,0,N⟩),V .u64 153]) (a.alloc (.cells #[b,c,d] 109)):=O3
theorem Tryz.gu(a:Q):(Rtype.elem? 111).run Aa a=.ok (I 109) a:=O3
theorem Tryz.gG(a:Addr)(b:Q):(ReflectliteValue.mk 109 a ReflectliteValue.flagAddr).run Aa b=.ok (T #[J (I ⟨27,109,N⟩),J (I a),V .u64 409]) b:=O3
theorem Tryz.gk(b c:Addr)(a:Q)(d:a.cell? b=I (J (I c))):
 (ReflectliteValue.method (ReflectliteValue.valueError "reflectlite.Value.Elem" 0) ReflectliteValue.elem #[T #[J (I ⟨27,111,N⟩),J (I b),V .u64 150]]).run Aa a
  =.ok (T #[J (I ⟨27,109,N⟩),J (I c),V .u64 409]) a:=by
 rw[UY];simp[Sem.run_bind,Tryz.fR,Result.andThen];simp[ReflectliteValue.elem,loadVar,isAgg,underlying,Tryz.underlying111,d,Result.andThen,Tryz.gu,Tryz.gG]
theorem Tryz.gj(a:Addr)(b:Q):(ReflectliteValue.parts (T #[J (I ⟨27,109,N⟩),J (I a),V .u64 409])).run Aa b=.ok (I (109,a,409)) b:=O3
theorem Tryz.gy(a:Addr)(b:Q):(ReflectliteValue.parts (T #[J (I ⟨27,109,N⟩),J (I a),V .u64 153])).run Aa b=.ok (I (109,a,153)) b:=O3
theorem Tryz.gH(a:Q):(Rtype.directlyAssignable 109 109).run Aa a=.ok true a:=rfl
theorem rls(c d:X):ReflectliteValue.set #[c,d]=(do
 let (I (dst,a,fl),I (src,b,_)):=(<-ReflectliteValue.parts c,<-ReflectliteValue.parts d)
  |unsupported (.noEntry "extern/(internal/reflectlite.Value).Set.zeroValue")
 if fl / ReflectliteValue.flagAddr % 2==0 then unsupported (.noEntry "extern/(internal/reflectlite.Value).Set.unaddressable")
 let val <-loadVar src b
 if <-Rtype.directlyAssignable dst src then storeVar dst a val
 else if <-Rtype.implements dst src then
  if (<-Rtype.kind src)==20 then
   match val with
   |.nilIface=>unsupported (.noEntry "extern/reflectlite: a nil value of one interface type handed on as a value of another")
   |_=>storeVar dst a val
  else storeVar dst a (Z src val)
 else panicString ("reflectlite.Set: value of type "++(<-Rtype.spelt src)++ " is not assignable to type "++(<-Rtype.spelt dst))
 pure (R #[])):=rfl
theorem Tryz.fY(tb d:Nat)(c e f o g h:X)(a:Q)(l:a.cell? ⟨d,0,N⟩=I c)(m:a.cell? ⟨d,1,N⟩=I e)(n:a.cell? ⟨d,2,N⟩=I f)(s:a.cell? ⟨tb,0,N⟩=I o)(t:a.cell? ⟨tb,1,N⟩=I g)(v:a.cell? ⟨tb,2,N⟩=I h)(i:a.frozen? ⟨tb,0,N⟩=false)(j:a.frozen? ⟨tb,1,N⟩=false)(k:a.frozen? ⟨tb,2,N⟩=false)(p:c.oneCell'=true)(q:e.oneCell'=true)(r:f.oneCell'=true):
 (ReflectliteValue.set #[T #[J (I ⟨27,109,N⟩),J (I ⟨tb,0,N⟩),V .u64 409],T #[J (I ⟨27,109,N⟩),J (I ⟨d,0,N⟩),V .u64 153]]).run Aa a
  =.ok (R #[]) (((a.setCell ⟨tb,0,N⟩ c).setCell ⟨tb,1,N⟩ e).setCell ⟨tb,2,N⟩ f):=by
 rw[rls];simp only[Sem.run_bind,Tryz.gj,Tryz.gy,Result.andThen];simp[ReflectliteValue.flagAddr,loadVar,Tryz.gH,Result.andThen];simp[loadCells,loadCellsFrom,Addr.add,l,m,n,storeVar,Value.cells,storeCells,Result.andThen];have u:(a.setCell ⟨tb,0,N⟩ c).cell? ⟨tb,1,N⟩=I g:=by rw[Af _ _ _ _ (by intro b;have:=congrArg Addr.off b;simp at this)];exact t
 have w:((a.setCell ⟨tb,0,N⟩ c).setCell ⟨tb,1,N⟩ e).cell? ⟨tb,2,N⟩=I h:=by rw[Af _ _ _ _ (by intro b;have:=congrArg Addr.off b;simp at this),Af _ _ _ _ (by intro b;have:=congrArg Addr.off b;simp at this)];exact v
 rw[run_store Aa a ⟨tb,0,N⟩ _ _ p];simp[s,i];rw[run_store Aa _ ⟨tb,1,N⟩ _ _ q];simp[u,j];rw[run_store Aa _ ⟨tb,2,N⟩ _ _ r];simp[w,k]
def G5(a:Q)(b:Addr):Q:=((a.alloc (.cells #[J (I b)] 111)).alloc (.cells #[J (I ⟨27,111,N⟩),J (I ⟨a.heap.size,0,N⟩),V .u64 150] 183)).alloc (.cells #[J (I ⟨27,111,N⟩),J (I ⟨a.heap.size,0,N⟩),V .u64 150] 183)
theorem Ad0(c:X)(d e:Int)(tb:Nat)(k l m:X)(a:Q)(t:a.cell? ⟨18,0,N⟩=I (Z 241 (T #[J (I ⟨27,63,N⟩)])))(n:a.cell? ⟨tb,0,N⟩=I k)(v:a.cell? ⟨tb,1,N⟩=I l)(w:a.cell? ⟨tb,2,N⟩=I m)(q:a.frozen? ⟨tb,0,N⟩=false)(r:a.frozen? ⟨tb,1,N⟩=false)(s:a.frozen? ⟨tb,2,N⟩=false)(u:c.oneCell'=true):
 Av Aa 32 #[Z 109 (T #[c,V C d,V C e]),Z 111 (J (I ⟨tb,0,N⟩))] a λp x=>p=F (A true)/\x=((((G5 a ⟨tb,0,N⟩).alloc (.cells #[c,V C d,V C e] 109)).setCell ⟨tb,0,N⟩ c).setCell ⟨tb,1,N⟩ (V C d)).setCell ⟨tb,2,N⟩ (V C e):=by
 have aa:=@Bj Aa 63 _ (λo=>ReflectliteValue.unpack (o.getD 0 (R #[]))) Tryz.func63 rfl rfl rfl O3;have ab:=@Bj Aa 64 _ (ReflectliteValue.methodAny (ReflectliteValue.valueError "reflectlite.Value.Type" 0) (λi _ _ _=>ReflectliteType.toType i)) Tryz.func64 rfl rfl rfl O3;have ac:=@Bj Aa 65 _ (ReflectliteValue.method (ReflectliteValue.valueError "reflectlite.Value.IsNil" 0) ReflectliteValue.isNil) Tryz.func65 rfl rfl rfl O3;have M:=@Bj Aa 314 _ (ReflectliteType.abiMethod λi=>do pure (V .u8 (<-Rtype.kind i))) Tryz.func314 rfl rfl rfl (by rfl);have U:=@Bj Aa 326 _ (ReflectliteType.method ReflectliteType.elem) Tryz.func326 rfl rfl rfl (by rfl);have Y:=@Bj Aa 327 _ (ReflectliteType.relation "Implements" ReflectliteType.implements_) Tryz.func327 rfl rfl rfl O3;have G:=@Bj Aa 61 _ ReflectliteType.typeOf Tryz.func61 rfl rfl (by rfl) O3;have O:=@Bj Aa 324 _ (ReflectliteType.relation "AssignableTo" ReflectliteType.assignableTo) Tryz.func324 rfl rfl rfl O3;have H:=@Bj Aa 114 _ (ReflectliteValue.method (ReflectliteValue.valueError "reflectlite.Value.Elem" 0) ReflectliteValue.elem) Tryz.func114 rfl rfl rfl O3;have K:=@Bj Aa 115 _ ReflectliteValue.set Tryz.func115 rfl rfl rfl O3;have am:=Tryz.gt;have mA:=Tryz.dX;have y:=Tryz.gm;have an:=Tryz.vF;have D:=Tryz.vP;have E:=Tryz.tP;have aj:=Tryz.eL;have ah:=Tryz.eJ;have ai:=Tryz.ep;have ag:=Tryz.kP;have af:=Tryz.kF;have z:=Tryz.fO;have ae:=Tryz.fX;have ak:=Tryz.e2 ⟨a.heap.size,0,N⟩ ⟨tb,0,N⟩ ((a.alloc (.cells #[J (I ⟨tb,0,N⟩)] 111)).alloc (.cells #[J (I ⟨27,111,N⟩),J (I ⟨a.heap.size,0,N⟩),V .u64 150] 183)) O2;have g:Below a.heap.size a (G5 a ⟨tb,0,N⟩):=(bA.alloc O2 _).alloc O5 _;have j:Below a.heap.size a ((a.alloc (.cells #[J (I ⟨tb,0,N⟩)] 111)).alloc (.cells #[J (I ⟨27,111,N⟩),J (I ⟨a.heap.size,0,N⟩),V .u64 150] 183)):=bA.alloc O2 _;have b:Below a.heap.size a ((G5 a ⟨tb,0,N⟩).alloc (.cells #[c,V C d,V C e] 109)):=g.alloc g.size _;have ad:=Bn j t;have h:tb<a.heap.size:=AG n;have B:=Tryz.gk ⟨a.heap.size,0,N⟩ ⟨tb,0,N⟩ (G5 a ⟨tb,0,N⟩) (by unfold G5;rw[World.cell?_alloc_lt _ _ ⟨a.heap.size,0,N⟩ O5];simp);have f:(G5 a ⟨tb,0,N⟩).heap.size=a.heap.size+1+1+1:=by simp[G5]
 have al:=Tryz.fY tb (a.heap.size+1+1+1) c (V C d) (V C e) k l m ((G5 a ⟨tb,0,N⟩).alloc (.cells #[c,V C d,V C e] 109))
  (by rw[<-f];simp) (by rw[<-f];simp) (by rw[<-f];simp)
  (Bn b n) (Bn b v) (Bn b w) (by rw[(Ea b).2 _ _ h];exact q) (by rw[(Ea b).2 _ _ h];exact r) (by rw[(Ea b).2 _ _ h];exact s) u rfl rfl
 clear j g b f;unfold G5 at*;go_enter Tryz.func32,Tryz.ntmps32;go_wp2;refine wp_loop_rounds 1 ?_;rw[rounds_succ];go_wp2;go_ret;simp
theorem Tryz.fC(b:X)(c:AX)(a:Q):(Arb (Z 444 b) c 252 true).run Aa a=.ok (R #[.nilIface,A false]) a:=run_typeAssert_lacksB Tryz.underlying252 O3 O3 b c a
theorem Aoh(f:Addr)(tb:Nat)(a:Q)(i:a.cell? ⟨18,0,N⟩=I (Z 241 (T #[J (I ⟨27,63,N⟩)]))):
 Av Aa 32 #[Z 444 (J (I f)),Z 111 (J (I ⟨tb,0,N⟩))] a λh j=>h=F (A false)/\Below a.heap.size a j:=by
 have u:=@Bj Aa 63 _ (λg=>ReflectliteValue.unpack (g.getD 0 (R #[]))) Tryz.func63 O3 O3 O3 O3;have v:=@Bj Aa 64 _ (ReflectliteValue.methodAny (ReflectliteValue.valueError "reflectlite.Value.Type" 0) (λb _ _ _=>ReflectliteType.toType b)) Tryz.func64 O3 O3 rfl O3;have w:=@Bj Aa 65 _ (ReflectliteValue.method (ReflectliteValue.valueError "reflectlite.Value.IsNil" 0) ReflectliteValue.isNil) Tryz.func65 O3 O3 O3 O3;have q:=@Bj Aa 314 _ (ReflectliteType.abiMethod λb=>do pure (V .u8 (<-Rtype.kind b))) Tryz.func314 O3 rfl rfl O3;have s:=@Bj Aa 326 _ (ReflectliteType.method ReflectliteType.elem) Tryz.func326 rfl rfl rfl O3;have t:=@Bj Aa 327 _ (ReflectliteType.relation "Implements" ReflectliteType.implements_) Tryz.func327 rfl rfl rfl O3;have p:=@Bj Aa 61 _ ReflectliteType.typeOf Tryz.func61 rfl rfl rfl O3;have r:=@Bj Aa 324 _ (ReflectliteType.relation "AssignableTo" ReflectliteType.assignableTo) Tryz.func324 rfl rfl rfl O3;have M:=Tryz.gB;have mA:=Tryz.dX;have k:=Tryz.gI;have m:=Tryz.vP;have n:=Tryz.tP;have G:=Tryz.eL;have D:=Tryz.eJ;have E:=Tryz.ep;have B:=Tryz.kP;have z:=Tryz.kF;have l:=Tryz.fO;have y:=Tryz.fX;have K:=Tryz.fC;have O:=Tryz.db;have U:=Tryz.cS;have H:=Tryz.e2 ⟨a.heap.size,0,N⟩ ⟨tb,0,N⟩ ((a.alloc (.cells #[J (I ⟨tb,0,N⟩)] 111)).alloc (.cells #[J (I ⟨27,111,N⟩),J (I ⟨a.heap.size,0,N⟩),V .u64 150] 183)) O2;have d:Below a.heap.size a (G5 a ⟨tb,0,N⟩):=(bA.alloc O2 _).alloc O5 _;have e:O9 (Below a.heap.size a (G5 a ⟨tb,0,N⟩)):=d;have c:Below a.heap.size a ((a.alloc (.cells #[J (I ⟨tb,0,N⟩)] 111)).alloc (.cells #[J (I ⟨27,111,N⟩),J (I ⟨a.heap.size,0,N⟩),V .u64 150] 183)):=bA.alloc O2 _;have x:=Bn c i;clear c d;go_enter Tryz.func32,Tryz.ntmps32;go_wp2;refine wp_loop_rounds 1 ?_;rw[rounds_succ];go_wp2;go_ret;exact⟨rfl,e.o⟩
theorem Ai3(d c:Addr)(m cb:Array X)(t tb:AX)(r s:Int)(a:Q)(q:d≠c)(j:a.heap[d.block]?=I (.cells m t (0,0)))(hb:a.heap[c.block]?=I (.cells cb tb (0,0))):
 Av Aa 31 #[Z 109 (T #[Z 444 (J (I d)),V C r,V C s]),Z 444 (J (I c))] a λi k=>i=F (A false)/\Below a.heap.size a k:=by
 let ⟨y,o,n⟩:=AB.1 Tryz.dz
 let ⟨z,p,w⟩:=AB.1 Tryz.dy
 have H:=Tryz.dn;have cT:=Tryz.cH;have B:=Tryz.ce;have E:=Tryz.en;have K:=Tryz.du;have D:=Tryz.cW;have G:=Tryz.eH;have M:=Tryz.db;have O:=Tryz.cS;have f:∀b,Below a.heap.size a (a.alloc b):=λb=>(Ae _ _).alloc .refl b;have g:∀{e:Addr} {l:Obj},a.heap[e.block]?=I l->e.block<a.heap.size:=fun {e l} h=>by
  grind
 have v:=λb=>run_eql_iface_ptr_other (a.alloc b) Tryz.underlying63 Tryz.underlying444 o n p O1 q (by rw[(f b).block _ (g j)];exact j) (by rw[(f b).block _ (g hb)];exact hb);have x:=λu=>run_eql_iface_types 109 444 u (J (I c)) Tryz.underlying63 nofun a;clear f g;go_enter Tryz.func31,Tryz.ntmps31;go_wp2;refine wp_loop_rounds 2 ?_;rw[rounds_succ];go_wp2_with (first|go_in|(go_at_call 318;refine(ZM _ _ _ _).mono ?_;rintro i k ⟨rfl,rfl⟩))
 rw[rounds_succ];go_wp2;go_ret;exact⟨rfl,bA⟩
end Go.Proofs.YtcacpmkdfnmhaaaGreatDoor
