import Derived.Lib.AppendStr
import Derived.Test.YtblobglfjhilmaaGreatDoorRefFitsJ
namespace Go.Proofs.YtblobglfjhilmaaGreatDoor
open Go.RowKit Go.Sort
def u8s(bs:List Nat):List Value:=bs.map λb:Nat=>Value.int .u8 (b:Int)
theorem u8s_app(a b:List Nat):u8s (a++b)=u8s a++u8s b:=List.map_append
def Buf(w:World)(base:Nat)(v:Value)(bs:List Nat):Prop:=w.ownsRow base 5 1 v bs.length (u8s bs)
theorem Buf.keep{w w':World}{base:Nat}{v:Value}{bs:List Nat}(h:Buf w base v bs)(hb:Below w.heap.size w w'):Buf w' base v bs:=row_keep h hb
theorem Buf.slice{w:World}{base:Nat}{v:Value}{bs:List Nat}(h:Buf w base v bs):∃p c,v=.slice p bs.length c:=row_slice h
def vb(n:Nat):List Nat:=if n<128 then [n] else (n % 128+128)::vb (n / 128)
 termination_by n
 decreasing_by omega
theorem vb_small{n:Nat}(h:n<128):vb n=[n]:=by rw[vb,if_pos h]
theorem vb_big{n:Nat}(h:¬n<128):vb n=(n % 128+128)::vb (n / 128):=by rw[vb,if_neg h]
theorem vb_len:∀(k n:Nat),n<128 ^ k->(vb n).length<=max k 1
 |0,n,h=>by
  rw[vb_small (by simp at h;omega)];simp
 |k+1,n,h=>by
  by_cases h1:n<128
  ·rw[vb_small h1];simp
  ·rw[vb_big h1];have:=vb_len k (n / 128) (by rw[Nat.pow_succ]at h;omega);cases k with
   |zero=>simp at h;omega
   |succ k=>simp only[List.length_cons];omega
theorem vb_len10(n:Nat)(h:n<18446744073709551616):(vb n).length<=10:=vb_len 10 n (by omega)
theorem Tryz.u8Info:(Tryz.prog.info? 5).map (λi=>(i.zero,i.size,i.bytes))=some (some (.int .u8 0),1,1):=by kernel_rfl
theorem Buf.base{w:World}{B:Nat}{v:Value}{bs:List Nat}(h:Buf w B v bs):∀k,v.ownBlock=some k->B<=k∧k<w.heap.size:=λk hk=>h.lt k hk
end Go.Proofs.YtblobglfjhilmaaGreatDoor
namespace Go.Proofs.YtblobglfjhilmaaGreatDoor
open Go.RowKit Go.Sort Go.Lib
theorem run_str_lies{P:Program}(w:World)(base:Nat)(t u ty e:TypeId)(i:TypeInfo)(ht:P.underlying t=some (.slice e))(hu:P.underlying u=some .string)(hi:P.info? e=some i)(hz:i.zero=some (.int .u8 0))
 (hsize:i.size=1) (hby:i.bytes=1) (g n cap:Nat) (xs:List Value) (hown:w.ownsRow base e 1 (.slice (some ⟨g,0,none⟩) n cap) n xs) (s:ByteArray)
 (hpos:0<n+s.size) (hl:n+s.size<=140737488355328) (hbase:base<=w.heap.size):
 ∃g' cap' w',(Builtin.append_ #[t,u] ty #[.slice (some ⟨g,0,none⟩) n cap,.string s]).run P w=.ok (.slice (some ⟨g',0,none⟩) (n+s.size) cap') w'∧w'.ownsRow base e 1 (.slice (some ⟨g',0,none⟩) (n+s.size) cap') (n+s.size) (xs++strCells s)∧
  w.grownBy w' (some g)∧(g'=g∨g'=w.heap.size):=by
 obtain⟨v',w',hr,h2,h3,-⟩:=run_append_own_string (P:=P) w base t u ty e i ht hu hi hz hsize hby _ n xs hown s (by unfold maxLen;omega) hl hbase;obtain⟨g',cap',rfl,-,-⟩:=h2.form hpos;refine⟨g',cap',w',hr,h2,h3,?_⟩;rcases hown.2 with⟨h0,-⟩|⟨g0,cap0,cur,h0,hb0,hg,hnc,hcm,hcs,htake⟩
 ·cases h0
 ·simp only[Value.slice.injEq,Option.some.injEq,Addr.mk.injEq,and_true,true_and]at h0;obtain⟨rfl,rfl⟩:=h0;by_cases hroom:n+s.size<=cap
  ·have hr2:=run_append_room_string (P:=P) w t u ty e i ht hu hi hsize g n cap cur hg s hroom (by omega);rw[hr]at hr2;injection hr2 with h4 h5;simp at h4;exact Or.inl h4.1
  ·have hxl:xs.length=n:=by simpa using hown.1
   have hr2:=run_append_grow_string (P:=P) w t u ty e i (.int .u8 0) ht hu hi hz ⟨g,0,none⟩ n cap xs (by rw[hsize];simpa using hxl) (hown.cells (g:=g) rfl) s (by omega) (by omega) (by rw[hby];exact growslice_fits (by omega) (by omega));rw[hr]at hr2;injection hr2 with h4 h5;simp at h4;exact Or.inr h4.1
theorem wpList_str_lies{P:Program}(w:World){ops:Array Oper}{rest:List Oper}{o:Oper}{a:Act}{Q:Exit->Act->World->Prop}(hgd:o.guard=none)(sl x:Operand)(t u:TypeId)
 (ho:o.op=.call {callee:=.builtin .append,args:=#[sl,x],argTypes:=#[t,u]})
 (base:Nat) (e:TypeId) (i:TypeInfo) (ht:P.underlying t=some (.slice e)) (hu:P.underlying u=some .string) (hi:P.info? e=some i) (hz:i.zero=some (.int .u8 0)) (hsize:i.size=1) (hby:i.bytes=1)
 (g n cap:Nat) (xs:List Value) (hs:a.eval sl=.slice (some ⟨g,0,none⟩) n cap) (hown:w.ownsRow base e 1 (.slice (some ⟨g,0,none⟩) n cap) n xs) (s:ByteArray) (hx:a.eval x=.string s)
 (hpos:0<n+s.size) (hl:n+s.size<=140737488355328) (hbase:base<=w.heap.size)
 (h:∀g' cap' w',w'.ownsRow base e 1 (.slice (some ⟨g',0,none⟩) (n+s.size) cap') (n+s.size) (xs++strCells s)->w.grownBy w' (some g)->(g'=g∨g'=w.heap.size)->wpList P ops Q rest (a.put o.dst (.slice (some ⟨g',0,none⟩) (n+s.size) cap')) w'):wpList P ops Q (o::rest) a w:=by
 refine wpList_plain hgd λK hK=>?_;obtain⟨g',cap',w',hr,h2,h3,h4⟩:=run_str_lies (P:=P) w base t u o.type e i ht hu hi hz hsize hby g n cap xs hown s hpos hl hbase;unfold Oper.wp execOp;simp only[ho,resolve,invoke,builtin,Sem.run_bind,Sem.run_pure,Result.andThen_ok,List.map_toArray,List.map_cons,List.map_nil,hs,hx,hr];exact hK _ _ (h g' cap' w' h2 h3 h4)
def tb(s:ByteArray):List Nat:=s.data.toList.map λb=>b.toNat
theorem tb_len(s:ByteArray):(tb s).length=s.size:=by rw[tb,List.length_map,Array.length_toList];rfl
theorem u8s_tb(s:ByteArray):u8s (tb s)=strCells s:=by simp[u8s,tb,strCells]
def nb(s:ByteArray):List Nat:=vb s.size++tb s
end Go.Proofs.YtblobglfjhilmaaGreatDoor
namespace Go.Proofs.YtblobglfjhilmaaGreatDoor
open Go.RowKit Go.Sort
def fA(a:Int):Nat:=if 0<=a then (2*a).toNat else (-2*a-1).toNat
def altBytes(l:List LAlt):List Nat:=l.flatMap λx=>vb x.tag.toNat++vb x.to.toNat
def wb(x:LIns):List Nat:=x.op.toNat::(if x.op=0 then vb (fA x.a) else if x.op=17 then vb x.alts.length++altBytes x.alts else if rowN x.op.toNat 0=2 then vb x.a.toNat else [])
theorem Buf.low{w:World}{B B':Nat}{v:Value}{bs:List Nat}(h:Buf w B v bs)(hl:B'<=B):Buf w B' v bs:=by
 refine⟨h.1,?_⟩;rcases h.2 with h|⟨g,cap,cur,e,hb,h⟩
 ·exact Or.inl h
 ·exact Or.inr ⟨g,cap,cur,e,by omega,h⟩
theorem Buf.lit(w:World)(B b:Nat)(hB:B<=w.heap.size):Buf (w.alloc (.cells #[.int .u8 (b:Int)] 5)) B (.slice (some ⟨w.heap.size,0,none⟩) 1 1) [b]:=by
 have h:=World.ownsRow_lit (base:=B) (e:=5) (size:=1) w #[.int .u8 (b:Int)] 1 hB (by unfold maxLen;omega) rfl;exact h
theorem vb_pos(n:Nat):0<(vb n).length:=by
 by_cases h:n<128
 ·rw[vb_small h];simp
 ·rw[vb_big h];simp
theorem Buf.cellsOf{w:World}{B g n c:Nat}{bs:List Nat}(h:Buf w B (.slice (some ⟨g,0,none⟩) n c) bs):∀j u,(u8s bs)[j]?=some u->w.cell? ((⟨g,0,none⟩:Addr).add j)=some u:=World.ownsRow.cells h rfl
theorem altBytes_snoc(l:List LAlt)(j:Nat)(hj:j<l.length):altBytes (l.take (j+1))=altBytes (l.take j)++vb l[j].tag.toNat++vb l[j].to.toNat:=by
 rw[List.take_succ_eq_append_getElem hj];unfold altBytes;rw[List.flatMap_append,List.append_assoc];congr 1
 simp only[List.flatMap_cons,List.flatMap_nil,List.append_nil]
end Go.Proofs.YtblobglfjhilmaaGreatDoor
