import Derived.Test.YtlanckgcjijefaaGreatDoorSynJ
import Derived.Test.YtlanckgcjijefaaGreatDoorOwnJ
set_option maxRecDepth 100000
set_option maxHeartbeats 4000000
namespace Go.Proofs.YtlanckgcjijefaaGreatDoor
open Go.RowKit Go.Sort
theorem isBracket_any(n:Nat)(w:World):Calls Tryz.prog 48 #[.int .u8 (n:Int)] w λe w'=>e=.returned (.bool (brkN n))∧w'=w:=by
 go_enter Tryz.func48,Tryz.ntmps48;go_wp2;all_goals
  go_ret;refine⟨ret_bool ?_,rfl⟩;have e1:((n:Int)==40)=(n==40):=by rw[Bool.eq_iff_iff,beq_iff_eq,beq_iff_eq];omega
  have e2:((n:Int)==41)=(n==41):=by rw[Bool.eq_iff_iff,beq_iff_eq,beq_iff_eq];omega
  unfold brkN;rw[<-e1,<-e2];try simp_all
theorem isGap_any(n:Nat)(w:World):Calls Tryz.prog 49 #[.int .u8 (n:Int)] w λe w'=>e=.returned (.bool (gapN n))∧w'=w:=by
 go_enter Tryz.func49,Tryz.ntmps49;go_wp2;all_goals
  go_ret;refine⟨ret_bool ?_,rfl⟩;have e1:((n:Int)==32)=(n==32):=by rw[Bool.eq_iff_iff,beq_iff_eq,beq_iff_eq];omega
  have e2:((n:Int)==10)=(n==10):=by rw[Bool.eq_iff_iff,beq_iff_eq,beq_iff_eq];omega
  unfold gapN;rw[<-e1,<-e2];try simp_all
def wlen(d:ByteArray):Nat:=match d[0]? with|some b=>if brkN b.toNat=true then 1 else wnd d 0|none=>0
theorem wlen_brk{d:ByteArray}(h:0<d.size)(hb:brkN d[0].toNat=true):wlen d=1:=by unfold wlen;rw[getElem?_pos d 0 h];simp[hb]
theorem wlen_word{d:ByteArray}(h:0<d.size)(hb:brkN d[0].toNat=false):wlen d=wnd d 0:=by unfold wlen;rw[getElem?_pos d 0 h];simp[hb]
theorem wordLength_any(d:ByteArray)(w:World)(h0:0<d.size)(hs:d.size<=2000):Calls Tryz.prog 30 #[.string d] w λe w'=>e=.returned (.int .i64 (wlen d:Int))∧w'=w:=by
 cases hb:brkN d[0].toNat with
 |true=>
  have HW:=hid (wlen_brk h0 hb);go_enter Tryz.func30,Tryz.ntmps30;go_wp2_with (first|(go_at_call 48;refine(isBracket_any _ _).mono ?_;rintro e w' ⟨rfl,rfl⟩))
  go_ret;exact⟨by rw[HW.out];rfl,rfl⟩
 |false=>
  have HW:=hid (wlen_word h0 hb);go_enter Tryz.func30,Tryz.ntmps30;go_wp2_with (first|(go_at_call 48;refine(isBracket_any _ _).mono ?_;rintro e w' ⟨rfl,rfl⟩))
  go_loop [3] (λi=>∃k:Nat,k<=d.size∧i=.int .i64 k∧Hid (wnd d k=wnd d 0)) (λi=>d.size-(intOf i).toNat)
  case atStart=>exact⟨0,Nat.zero_le _,rfl,rfl⟩
  case round=>
   obtain⟨k,hk,rfl,HA⟩:=hrel;by_cases hlt:k<d.size
   ·have h1:(0:Int)<=(k:Int):=by omega
    have h2:(k:Int)<(d.size:Int):=by omega
    have HM:=hid (wnd_more (s:=d) (q:=k) hlt);have HS:=hid (wnd_stop (s:=d) (q:=k) hlt);cases hb1:brkN d[k].toNat with
    |true=>
     go_wp2_with (first|(go_at_call 48;refine(isBracket_any _ _).mono ?_;rintro e w' ⟨rfl,rfl⟩))
     go_ret;exact⟨by rw[HW.out,<-HA.out,HS.out (Or.inr hb1)];rfl,rfl⟩
    |false=>
     cases hg1:gapN d[k].toNat with
     |true=>
      go_wp2_with (first|(go_at_call 48;refine(isBracket_any _ _).mono ?_;rintro e w' ⟨rfl,rfl⟩)|(go_at_call 49;refine(isGap_any _ _).mono ?_;rintro e w' ⟨rfl,rfl⟩))
      go_ret;exact⟨by rw[HW.out,<-HA.out,HS.out (Or.inl hg1)];rfl,rfl⟩
     |false=>
      go_wp2_with (first|(go_at_call 48;refine(isBracket_any _ _).mono ?_;rintro e w' ⟨rfl,rfl⟩)|(go_at_call 49;refine(isGap_any _ _).mono ?_;rintro e w' ⟨rfl,rfl⟩))
      exact⟨⟨k+1,by omega,by go_num,by show _=_;rw[<-HM.out hg1 hb1,HA.out]⟩,by simp[intOf];omega⟩
   ·have hge:¬(k:Int)<(d.size:Int):=by omega
    go_wp2;go_ret;exact⟨by rw[HW.out,<-HA.out,wnd_end (by omega)];rfl,rfl⟩
def toks(s:ByteArray)(p:Nat):List (ByteArray×Nat):=if _h:tokA s p<s.size then (tokT s p,tokA s p)::toks s (nxt s p) else [(⟨#[]⟩,s.size)]
termination_by s.size-p
decreasing_by
 have h1:=nxt_gt _h;have h2:=skp_ge s p;unfold tokA at _h;omega
theorem toks_cons{s:ByteArray}{p:Nat}(h:tokA s p<s.size):toks s p=(tokT s p,tokA s p)::toks s (nxt s p):=by rw[toks,dif_pos h]
theorem toks_end{s:ByteArray}{p:Nat}(h:¬tokA s p<s.size):toks s p=[(⟨#[]⟩,s.size)]:=by rw[toks,dif_neg h]
theorem toks_skp(s:ByteArray)(p:Nat):toks s (skp s p)=toks s p:=by
 rw[toks,tokA_skp,tokT_skp,nxt_skp];conv=>rhs;rw[toks]
theorem toks_gap{s:ByteArray}{p:Nat}(h:p<s.size)(hg:gapN s[p].toNat=true):toks s (p+1)=toks s p:=by
 rw[<-toks_skp s (p+1),<-toks_skp s p,skp_gap h hg]
theorem toks_ne(s:ByteArray)(p:Nat):toks s p≠[]:=by
 by_cases h:tokA s p<s.size
 ·rw[toks_cons h];simp
 ·rw[toks_end h];simp
theorem toks_head{s:ByteArray}{p:Nat}(hp:p<=s.size):∃r,toks s p=(tokT s p,tokA s p)::r∧(tokT s p≠⟨#[]⟩->r=toks s (nxt s p)):=by
 by_cases h:tokA s p<s.size
 ·exact⟨_,toks_cons h,λ_=>rfl⟩
 ·have h1:=tokA_le hp;have h2:=nxt_le hp;have h3:=nxt_ge s p;have h4:=tokT_size hp;have e:tokT s p=⟨#[]⟩:=by
   apply ByteArray.ext;apply Array.eq_empty_of_size_eq_zero;show(tokT s p).size=0;omega
  refine⟨[],?_,λk=>absurd e k⟩;rw[toks_end h,e,show tokA s p=s.size by omega]
theorem ext_get(s:ByteArray)(a k:Nat)(h:k<(s.extract a s.size).size)(h':a+k<s.size):(s.extract a s.size)[k]=s[a+k]:=by
 simp[ByteArray.getElem_extract]
theorem wnd_ext(s:ByteArray)(a:Nat)(ha:a<=s.size):∀(n k:Nat),s.size-(a+k)<=n->a+k<=s.size->wnd (s.extract a s.size) k+a=wnd s (a+k)
 |0,k,hn,hk=>by
  rw[wnd_end (by rw[ByteArray.size_extract];omega),wnd_end (by omega)];omega
 |n+1,k,hn,hk=>by
  by_cases h:a+k<s.size
  ·have h1:k<(s.extract a s.size).size:=by rw[ByteArray.size_extract];omega
   have e:=ext_get s a k h1 h;by_cases hg:gapN s[a+k].toNat=true∨brkN s[a+k].toNat=true
   ·rw[wnd_stop h1 (by rw[e];exact hg),wnd_stop h hg];omega
   ·have g1:gapN s[a+k].toNat=false:=by cases hx:gapN s[a+k].toNat<;>simp_all
    have g2:brkN s[a+k].toNat=false:=by cases hx:brkN s[a+k].toNat<;>simp_all
    rw[wnd_more h1 (by rw[e];exact g1) (by rw[e];exact g2),wnd_more h g1 g2];exact wnd_ext s a ha n (k+1) (by omega) (by omega)
  ·rw[wnd_end (by rw[ByteArray.size_extract];omega),wnd_end (by omega)];omega
theorem wlen_gap{s:ByteArray}{a:Nat}(h:a<s.size)(hg:gapN s[a].toNat=true):wlen (s.extract a s.size)=0:=by
 have h1:0<(s.extract a s.size).size:=by rw[ByteArray.size_extract];omega
 have e:=ext_get s a 0 h1 (by omega);have hb:brkN s[a].toNat=false:=by rw[gapN_iff]at hg;cases hb:brkN s[a].toNat with|false=>rfl|true=>rw[brkN_iff]at hb;omega
 have e2:(s.extract a s.size)[0].toNat=s[a].toNat:=by rw[e];rfl
 rw[wlen_word h1 (by rw[e2];exact hb)];have:=wnd_ext s a (by omega) _ 0 (Nat.le_refl _) (by omega);have h3:wnd s (a+0)=a:=wnd_stop h (Or.inl hg);omega
theorem wlen_tok{s:ByteArray}{a:Nat}(h:a<s.size)(hg:gapN s[a].toNat=false):a+wlen (s.extract a s.size)=tokE s a:=by
 have h1:0<(s.extract a s.size).size:=by rw[ByteArray.size_extract];omega
 have e:=ext_get s a 0 h1 (by omega);have e2:(s.extract a s.size)[0].toNat=s[a].toNat:=by rw[e];rfl
 cases hb:brkN s[a].toNat with
 |true=>
  rw[wlen_brk h1 (by rw[e2];exact hb)];unfold tokE;rw[if_pos ⟨wnd_stop h (Or.inr hb),h⟩]
 |false=>
  rw[wlen_word h1 (by rw[e2];exact hb)];have:=wnd_ext s a (by omega) _ 0 (Nat.le_refl _) (by omega);have h3:a<wnd s a:=by
   rw[wnd_more h hg hb];have:=wnd_ge s (a+1);omega
  unfold tokE;rw[if_neg (by omega)];show a+_=wnd s a;have h4:wnd s (a+0)=wnd s a:=rfl;omega
def wC(x:ByteArray×Nat):List Value:=[.string x.1,.int .i64 (x.2:Int)]
abbrev WordsO(w:World)(lo:Nat)(v:Value)(l:List (ByteArray×Nat)):Prop:=RowS wC (λ_=>[]) (λ_ _=>True) 87 2 w lo v l
theorem okW:OkFr (α:=ByteArray×Nat) (λ_=>[]) (λ_ _=>True):=λ_ _ _ _ _ _=>trivial
theorem Tryz.wordI:(Tryz.prog.info? 87).map (λi=>(i.zero,i.size,i.bytes))=some (some (.agg #[.string ⟨#[]⟩,.int .i64 0]),2,24):=by kernel_rfl
structure CutSt (s:ByteArray) (w wr:World) (at':Nat) (l:List (ByteArray×Nat)) (vp:Option Addr) (vc:Nat):Prop where
 le:at'<=s.size
 row:WordsO wr w.heap.size (.slice vp l.length vc) l
 eq:l++toks s at'=toks s 0
 len:l.length<=at'
 low:Below w.heap.size w wr
theorem CutSt.gap{s:ByteArray}{w wr:World}{a:Nat}{l:List (ByteArray×Nat)}{vp:Option Addr}{vc:Nat}(h:CutSt s w wr a l vp vc)(ha:a<s.size)(hg:gapN s[a].toNat=true):CutSt s w wr (a+1) l vp vc:=
 ⟨by omega,h.row,by rw[toks_gap ha hg];exact h.eq,by have:=h.len;omega,h.low⟩
theorem RowS.pushN{α:Type}{cells:α->List Value}{ok:World->α->Prop}{e:TypeId}{size:Nat}(hok:OkFr (λ_=>[]) ok){w w2:World}{lo:Nat}{v:Value}{xs:List α}{ob:Obj}(h:RowS cells (λ_=>[]) ok e size w lo v xs)(hlo:lo<=w.heap.size){x:α}(hx:ok (w.alloc ob) x)
 (hg:(w.alloc ob).grownBy w2 v.ownBlock) {g c:Nat} (hat:v.ownBlock=some g∨g=(w.alloc ob).heap.size) (hlt:g<w2.heap.size)
 (hown:w2.ownsRow 0 e size (.slice (some ⟨g,0,none⟩) (xs.length+1) c) (xs.length+1) (xs.flatMap cells++cells x)):RowS cells (λ_=>[]) ok e size w2 lo (.slice (some ⟨g,0,none⟩) (xs.length+1) c) (xs++[x]):=by
 have hb:Below w.heap.size w (w.alloc ob):=(Below.refl _ _).alloc (Nat.le_refl _) _;exact h.push hok hlo (λb hb'=>hb.block b (h.rg b hb').2) hb.size hx (λb hb'=>by cases hb') List.nodup_nil hg rfl hat hlt hown
theorem below_push{w0 w w2:World}{v:Value}{ob:Obj}{lo:Nat}(hb:Below lo w0 w)(hlo:lo<=w.heap.size)(hv:∀b,v.ownBlock=some b->lo<=b)(hg:(w.alloc ob).grownBy w2 v.ownBlock):Below lo w0 w2:=
 (hb.alloc hlo ob).grown hg (by simp;omega) hv
theorem CutSt.word{s:ByteArray}{w wr w2:World}{a n:Nat}{l:List (ByteArray×Nat)}{vp:Option Addr}{vc:Nat}{ob:Obj}(h:CutSt s w wr a l vp vc)(ha:a<s.size)(hg:gapN s[a].toNat=false)(hn:wlen (s.extract a s.size)=n)
 (hgr:(wr.alloc ob).grownBy w2 (Value.slice vp l.length vc).ownBlock) {g c:Nat} (hat:(Value.slice vp l.length vc).ownBlock=some g∨g=(wr.alloc ob).heap.size) (hlt:g<w2.heap.size)
 (hown:w2.ownsRow 0 87 2 (.slice (some ⟨g,0,none⟩) (l.length+1) c) (l.length+1) (l.flatMap wC++[.string (s.extract a (a+n)),.int .i64 (a:Int)])):
 CutSt s w w2 (a+n) (l++[(s.extract a (a+n),a)]) (some ⟨g,0,none⟩) c:=by
 subst hn;have e1:=wlen_tok ha hg;have e2:skp s a=a:=skp_stop ha hg;have e3:nxt s a=a+wlen (s.extract a s.size):=by unfold nxt;rw[e2,<-e1]
 have e4:tokA s a=a:=e2;have e5:=tokE_gt (s:=s) (q:=a) ha;have e6:=tokE_le (s:=s) (q:=a) (by omega);have hl:(l++[(s.extract a (a+wlen (s.extract a s.size)),a)]).length=l.length+1:=by simp
 have hlo:w.heap.size<=wr.heap.size:=h.low.size;refine⟨by omega,?_,?_,by have:=h.len;omega,below_push h.low hlo (λb hb=>(h.row.rg b (List.mem_append_left _ (mem_vB.2 hb))).1) hgr⟩
 ·rw[hl];exact h.row.pushN okW hlo trivial hgr hat hlt hown
 ·rw[<-h.eq,toks_cons (s:=s) (p:=a) (by omega),List.append_assoc,e3,e4];unfold tokT;rw[e3,e4];rfl
def CutRes(s:ByteArray)(w:World)(e:Ending)(w':World):Prop:=Below w.heap.size w w'∧∃g c,e=.returned (.slice (some ⟨g,0,none⟩) (toks s 0).length c)∧WordsO w' w.heap.size (.slice (some ⟨g,0,none⟩) (toks s 0).length c) (toks s 0)
theorem CutSt.fin{s:ByteArray}{w wr w2:World}{l:List (ByteArray×Nat)}{vp:Option Addr}{vc:Nat}{ob:Obj}(h:CutSt s w wr s.size l vp vc)
 (hgr:(wr.alloc ob).grownBy w2 (Value.slice vp l.length vc).ownBlock) {g c:Nat} (hat:(Value.slice vp l.length vc).ownBlock=some g∨g=(wr.alloc ob).heap.size) (hlt:g<w2.heap.size)
 (hown:w2.ownsRow 0 87 2 (.slice (some ⟨g,0,none⟩) (l.length+1) c) (l.length+1) (l.flatMap wC++[.string ⟨#[]⟩,.int .i64 (s.size:Int)])):
 CutRes s w (.returned (.slice (some ⟨g,0,none⟩) (l.length+1) c)) w2:=by
 have hlo:w.heap.size<=wr.heap.size:=h.low.size;have e:toks s 0=l++[(⟨#[]⟩,s.size)]:=by
  rw[<-h.eq,toks_end (s:=s) (p:=s.size)];have:=skp_ge s s.size;unfold tokA;omega
 have hl:(l++[((⟨#[]⟩,s.size):ByteArray×Nat)]).length=l.length+1:=by simp
 refine⟨below_push h.low hlo (λb hb=>(h.row.rg b (List.mem_append_left _ (mem_vB.2 hb))).1) hgr,g,c,?_,?_⟩
 ·rw[e,hl]
 ·rw[e,hl];exact h.row.pushN okW hlo trivial hgr hat hlt hown
theorem cut_any(s:ByteArray)(w:World)(hs:s.size<=2000):Calls Tryz.prog 14 #[.string s] w λe w'=>CutRes s w e w':=by
 obtain⟨ii,hii,hij⟩:=Option.map_eq_some_iff.1 Tryz.wordI;simp only[Prod.mk.injEq]at hij;obtain⟨hi0,hi1,hi2⟩:=hij;have HR0:Hid (CutSt s w w 0 [] none 0):=⟨Nat.zero_le _,RowS.nil _ _,rfl,Nat.zero_le _,Below.refl _ _⟩;go_enter Tryz.func14,Tryz.ntmps14;go_wp2;go_loopw [3,4] (λlv av wr=>∃(l:List (ByteArray×Nat)) (a:Nat) (vp:Option Addr) (vc:Nat),lv=.slice vp l.length vc∧av=.int .i64 (a:Int)∧Hid (CutSt s w wr a l vp vc)) (λ_ av _=>s.size-(intOf av).toNat)
 case atStart=>exact⟨[],0,none,0,rfl,rfl,HR0.out⟩
 case round=>
  clear HR0;obtain⟨l,a,vp,vc,rfl,rfl,HC⟩:=hrel;rename World=>wr
  have hle:=HC.out.le;have hln:=HC.out.len;by_cases hlt:a<s.size
  ·have h0:(0:Int)<=(a:Int):=by omega
   have h1:(a:Int)<(s.size:Int):=by omega
   have hx:(s.extract a s.size).size=s.size-a:=by rw[ByteArray.size_extract];omega
   have HWL:=hid (λw=>wordLength_any (s.extract a s.size) w (by omega) (by omega));cases hg:gapN s[a].toNat with
   |true=>
    have HX:=hid (HC.out.gap hlt hg);have HN:=hid (wlen_gap hlt hg);clear hg;go_wp2_with (first|(go_at_call 30;refine(HWL.out _).mono ?_;rintro e w' ⟨rfl,rfl⟩;rw[HN.out]))
    exact⟨⟨l,a+1,vp,vc,rfl,by go_num,HX.out⟩,by simp[intOf];omega⟩
   |false=>
    obtain⟨n,hn⟩:∃n,wlen (s.extract a s.size)=n:=⟨_,rfl⟩;have hn1:a+n=tokE s a:=by rw[<-hn];exact wlen_tok hlt hg
    have hn2:=tokE_gt (s:=s) (q:=a) hlt;have hn3:=tokE_le (s:=s) (q:=a) (by omega);have hn4:0<n:=by omega
    have hn5:a+n<=s.size:=by omega
    clear hn1 hn2 hn3;have HG:=hid hg;have HN:=hid hn;clear hg hn;have i1:(0:Int)<(n:Int):=by omega
    have i2:(0:Int)<=(a:Int)+(n:Int):=by omega
    have i3:(a:Int)+(n:Int)<=(s.size:Int):=by omega
    have i4:(a:Int)<=(a:Int)+(n:Int):=by omega
    go_wp2_with (first
     |(go_at_call 30;refine(HWL.out _).mono ?_;rintro e w' ⟨rfl,rfl⟩;rw[HN.out])
     |(at_builtin;refine wpList_append_lies _ rfl (.tmp 16) (.tmp 25) 56 rfl 0 87 ii _ 2 24 Tryz.underlying56 hii hi0 hi1 hi2 rfl (by omega) (.slice vp l.length vc) l.length (l.flatMap wC) rfl (HC.out.row.own.alloc _) ⟨w'.heap.size,0,none⟩ 1 1 [.string (s.extract a (a+n)),.int .i64 (a:Int)] rfl rfl (by simpa using World.news_of_block (heap_alloc_new w' (Obj.cells #[.string (s.extract a (a+n)),.int .i64 (a:Int)] 87))) (by intro u hu;simp at hu;rcases hu with rfl|rfl<;>rfl) (by omega) (by unfold maxLen;omega) (by omega) (Nat.zero_le _) _ rfl ?_;intro g1 k1 w7 hown hgrow hat hlt1;have HNX:=hid (HC.out.word hlt HG.out HN.out hgrow hat hlt1 hown);clear hown hgrow hat hlt1))
    exact⟨⟨_,a+n,_,_,by rw[List.length_append];rfl,by go_num,HNX.out⟩,by simp[intOf];omega⟩
  ·obtain rfl:a=s.size:=by omega
   have hge:¬(s.size:Int)<(s.size:Int):=by omega
   go_wp2_with (first
    |(at_builtin;refine wpList_append_lies _ rfl (.tmp 31) (.tmp 35) 56 rfl 0 87 ii _ 2 24 Tryz.underlying56 hii hi0 hi1 hi2 rfl (by omega) (.slice vp l.length vc) l.length (l.flatMap wC) rfl (HC.out.row.own.alloc _) ⟨wr.heap.size,0,none⟩ 1 1 [.string ⟨#[]⟩,.int .i64 (s.size:Int)] rfl rfl (by simpa using World.news_of_block (heap_alloc_new wr (Obj.cells #[.string ⟨#[]⟩,.int .i64 (s.size:Int)] 87))) (by intro u hu;simp at hu;rcases hu with rfl|rfl<;>rfl) (by omega) (by unfold maxLen;omega) (by omega) (Nat.zero_le _) _ rfl ?_;intro g1 k1 w7 hown hgrow hat hlt1;have HNX:=hid (HC.out.fin hgrow hat hlt1 hown);clear hown hgrow hat hlt1))
   go_ret;exact HNX.out
structure SY (w:World) (adr:Nat->Addr):Prop where
 sy:w.cell? ⟨1,0,none⟩=some (.iface 217 (.pointer (some (adr 12))))
 dp:w.cell? ⟨2,0,none⟩=some (.iface 217 (.pointer (some (adr 13))))
 tw:w.cell? ⟨4,0,none⟩=some (.iface 217 (.pointer (some (adr 14))))
 nm:w.cell? ⟨3,0,none⟩=some (.iface 217 (.pointer (some (adr 5))))
 lg:w.cell? ⟨0,0,none⟩=some (.iface 217 (.pointer (some (adr 4))))
 es:∃ev,w.cell? ⟨20,0,none⟩=some ev∧(ev=.nilIface∨∃te pe,ev=.iface te pe)
 er:∃ev,w.cell? ⟨21,0,none⟩=some ev∧(ev=.nilIface∨∃te pe,ev=.iface te pe)
theorem SY.keep{w w':World}{adr:Nat->Addr}(h:SY w adr)(hb:Below w.heap.size w w'):SY w' adr:=by
 obtain⟨e1,k1,l1⟩:=h.es;obtain⟨e2,k2,l2⟩:=h.er;exact⟨cell_keep hb h.sy,cell_keep hb h.dp,cell_keep hb h.tw,cell_keep hb h.nm,cell_keep hb h.lg,⟨e1,cell_keep hb k1,l1⟩,⟨e2,cell_keep hb k2,l2⟩⟩
structure PB (B w:World) (P:Nat) (adr:Nat->Addr):Prop where
 s:SY B adr
 b:Below B.heap.size B w
 e:B.heap.size<=P
theorem PB.ef{B w w':World}{P:Nat}{adr:Nat->Addr}(h:PB B w P adr)(hE:EF P w w'):PB B w' P adr:=
 ⟨h.s,⟨hE.os.trans h.b.os,hE.tape.trans h.b.tape,hE.output.trans h.b.output,Nat.le_trans h.b.size hE.size,λk hk=>(hE.block k (Nat.lt_of_lt_of_le hk h.b.size) (by have:=h.e;omega)).trans (h.b.block k hk)⟩,h.e⟩
theorem PB.sy{B w:World}{P:Nat}{adr:Nat->Addr}(h:PB B w P adr):SY w adr:=h.s.keep h.b
theorem ef_cell{E:Nat}{w w':World}(h:EF E w w'){b j:Nat}{u:Value}(hc:w.cell? ⟨b,j,none⟩=some u)(hb:b≠E):w'.cell? ⟨b,j,none⟩=some u:=by
 rw[World.cell?_of_block (a:=⟨b,j,none⟩) (h.block b (block_lt_of_cell hc) hb)];exact hc
theorem ef_new{T b j:Nat}{w w':World}{u:Value}(h:EF T w w')(hb:w.heap.size<=b):EF T w (w'.setCell ⟨b,j,none⟩ u):=
 ⟨h.os,h.tape,h.output,by have:=h.size;simp;omega,λk hk hT=>by rw[Below.heap_setCell _ _ _ _ (show k≠b by omega)];exact h.block k hk hT⟩
def WordsAt(w:World)(W o:Nat)(l:List (ByteArray×Nat)):Prop:=∀i (hi:i<l.length),w.cell? ⟨W,o+i*2,none⟩=some (.string l[i].1)∧w.cell? ⟨W,o+i*2+1,none⟩=some (.int .i64 (l[i].2:Int))
structure PS (w:World) (P W:Nat) (s:ByteArray) (p:Nat) (gv:Value) (nest:Nat):Prop where
 c0:∃o c,w.cell? ⟨P,0,none⟩=some (.slice (some ⟨W,o,none⟩) (toks s p).length c)∧(toks s p).length<=c∧c<=9223372036854775807∧W≠P∧WordsAt w W o (toks s p)
 c1:w.cell? ⟨P,1,none⟩=some gv
 c2:w.cell? ⟨P,2,none⟩=some (.int .i64 (nest:Int))
 f:∀j,j<3->w.frozen? ⟨P,j,none⟩=false
section
variable {w w':World} {P W:Nat} {s:ByteArray} {p nest:Nat} {gv:Value}
theorem PS.lt(h:PS w P W s p gv nest):P<w.heap.size:=block_lt_of_cell h.c1
theorem PS.wlt(h:PS w P W s p gv nest):W<w.heap.size:=by
 obtain⟨o,c,h0,hc,hc2,hne,hw⟩:=h.c0;exact block_lt_of_cell (hw 0 (List.length_pos_iff.2 (toks_ne _ _))).1
theorem PS.far(h:PS w P W s p gv nest){b j:Nat}{u:Value}(h1:b≠P)(h2:b≠W):PS (w.setCell ⟨b,j,none⟩ u) P W s p gv nest:=by
 have ho:∀c i,c≠b->(w.setCell ⟨b,j,none⟩ u).cell? ⟨c,i,none⟩=w.cell? ⟨c,i,none⟩:=λc i hj=>World.cell?_setCell_other _ _ _ _ (by intro e;cases e;exact hj rfl);obtain⟨o,c,h0,hc,hc2,hne,hw⟩:=h.c0;refine⟨⟨o,c,?_,hc,hc2,hne,λi hi=>?_⟩,?_,?_,λj hj=>by rw[World.frozen?_setCell];exact h.f j hj⟩
 ·rw[ho _ _ (Ne.symm h1)];exact h0
 ·rw[ho _ _ (Ne.symm h2),ho _ _ (Ne.symm h2)];exact hw i hi
 ·rw[ho _ _ (Ne.symm h1)];exact h.c1
 ·rw[ho _ _ (Ne.symm h1)];exact h.c2
theorem PS.below(h:PS w P W s p gv nest)(hb:Below w.heap.size w w'):PS w' P W s p gv nest:=by
 obtain⟨o,c,h0,hc,hc2,hne,hw⟩:=h.c0;refine⟨⟨o,c,cell_keep hb h0,hc,hc2,hne,λi hi=>⟨cell_keep hb (hw i hi).1,cell_keep hb (hw i hi).2⟩⟩,cell_keep hb h.c1,cell_keep hb h.c2,λj hj=>?_⟩;rw[World.frozen?_of_block (a:=⟨P,j,none⟩) (hb.block P h.lt)];exact h.f j hj
theorem PS.skp(h:PS w P W s p gv nest){q:Nat}(e:toks s q=toks s p):PS w P W s q gv nest:=⟨by rw[e];exact h.c0,h.c1,h.c2,h.f⟩
theorem PS.turn(h:PS w P W s p gv nest){o c q:Nat}(hc:(toks s q).length<=c)(hc2:c<=9223372036854775807)(hne:W≠P)(hw:WordsAt w W o (toks s q)):
 PS (w.setCell ⟨P,0,none⟩ (.slice (some ⟨W,o,none⟩) (toks s q).length c)) P W s q gv nest:=by
 have ho:∀b j,(b≠P∨j≠0)->(w.setCell ⟨P,0,none⟩ (.slice (some ⟨W,o,none⟩) (toks s q).length c)).cell? ⟨b,j,none⟩=w.cell? ⟨b,j,none⟩:=λb j hj=>World.cell?_setCell_other _ _ _ _ (by intro e;cases e;rcases hj with h|h<;>exact h rfl);obtain⟨o',c',h0,-⟩:=h.c0;refine⟨⟨o,c,World.cell?_setCell_same _ _ _ h0,hc,hc2,hne,λi hi=>?_⟩,?_,?_,λj hj=>by rw[World.frozen?_setCell];exact h.f j hj⟩
 ·rw[ho _ _ (Or.inl hne),ho _ _ (Or.inl hne)];exact hw i hi
 ·rw[ho _ _ (Or.inr (by omega))];exact h.c1
 ·rw[ho _ _ (Or.inr (by omega))];exact h.c2
theorem PS.setNest(h:PS w P W s p gv nest)(q:Nat):PS (w.setCell ⟨P,2,none⟩ (.int .i64 (q:Int))) P W s p gv q:=by
 have ho:∀b j,(b≠P∨j≠2)->(w.setCell ⟨P,2,none⟩ (.int .i64 (q:Int))).cell? ⟨b,j,none⟩=w.cell? ⟨b,j,none⟩:=λb j hj=>World.cell?_setCell_other _ _ _ _ (by intro e;cases e;rcases hj with h|h<;>exact h rfl);obtain⟨o,c,h0,hc,hc2,hne,hw⟩:=h.c0;refine⟨⟨o,c,?_,hc,hc2,hne,λi hi=>?_⟩,?_,World.cell?_setCell_same _ _ _ h.c2,λj hj=>by rw[World.frozen?_setCell];exact h.f j hj⟩
 ·rw[ho _ _ (Or.inr (by omega))];exact h0
 ·rw[ho _ _ (Or.inl hne),ho _ _ (Or.inl hne)];exact hw i hi
 ·rw[ho _ _ (Or.inr (by omega))];exact h.c1
theorem PS.setGv(h:PS w P W s p gv nest)(v:Value):PS (w.setCell ⟨P,1,none⟩ v) P W s p v nest:=by
 have ho:∀b j,(b≠P∨j≠1)->(w.setCell ⟨P,1,none⟩ v).cell? ⟨b,j,none⟩=w.cell? ⟨b,j,none⟩:=λb j hj=>World.cell?_setCell_other _ _ _ _ (by intro e;cases e;rcases hj with h|h<;>exact h rfl);obtain⟨o,c,h0,hc,hc2,hne,hw⟩:=h.c0;refine⟨⟨o,c,?_,hc,hc2,hne,λi hi=>?_⟩,World.cell?_setCell_same _ _ _ h.c1,?_,λj hj=>by rw[World.frozen?_setCell];exact h.f j hj⟩
 ·rw[ho _ _ (Or.inr (by omega))];exact h0
 ·rw[ho _ _ (Or.inl hne),ho _ _ (Or.inl hne)];exact hw i hi
 ·rw[ho _ _ (Or.inr (by omega))];exact h.c2
end
theorem peek_any{w:World}{P W:Nat}{s:ByteArray}{p nest:Nat}{gv:Value}(h:PS w P W s p gv nest)(hp:p<=s.size):
 Calls Tryz.prog 33 #[.pointer (some ⟨P,0,none⟩)] w λe w'=>e=.returned (.agg #[.string (tokT s p),.int .i64 (tokA s p:Int)])∧Below w.heap.size w w':=by
 obtain⟨o,c,h0,hc,hc2,hne,hw⟩:=h.c0;obtain⟨r,hr,-⟩:=toks_head hp;have hl:0<(toks s p).length:=by rw[hr];simp
 have hw0:=hw 0 hl;have e0:(toks s p)[0]=(tokT s p,tokA s p):=by simp[hr]
 rw[e0]at hw0;obtain⟨d0,d1⟩:=hw0;simp only[Nat.zero_mul,Nat.add_zero]at d0 d1;clear hw hr e0 h;generalize (toks s p).length=n at*;have i1:(0:Int)<(n:Int):=by omega
 obtain⟨w1,hw1⟩:∃w1,w1=w.alloc (.cells #[.string ⟨#[]⟩,.int .i64 0] 87):=⟨_,rfl⟩;have hb:Below w.heap.size w w1:=by rw[hw1];exact(Below.refl _ _).alloc (Nat.le_refl _) _
 have h0':=cell_keep hb h0;have d0':=cell_keep hb d0;have d1':=cell_keep hb d1;clear h0 d0 d1;subst hw1;go_enter Tryz.func33,Tryz.ntmps33;go_wp2;refine bodyPost_ret (v:=.agg #[.string (tokT s p),.int .i64 (tokA s p:Int)]) (by simp[results,Tryz.results33,go_sem]) rfl ?_;exact⟨rfl,(Below.refl _ _).alloc (Nat.le_refl _) _⟩
theorem skip_any{w:World}{P W:Nat}{s:ByteArray}{p nest:Nat}{gv:Value}(h:PS w P W s p gv nest)(hp:p<=s.size):
 Calls Tryz.prog 34 #[.pointer (some ⟨P,0,none⟩)] w λe w'=>e=.returned (.tuple #[])∧EF P w w'∧(tokT s p≠⟨#[]⟩->PS w' P W s (nxt s p) gv nest):=by
 have HS:=hid h;obtain⟨o,c,h0,hc,hc2,hne,hw⟩:=h.c0;obtain⟨r,hr,hr2⟩:=toks_head hp;have hl:(toks s p).length=r.length+1:=by rw[hr];simp
 have HT:Hid (tokT s p≠⟨#[]⟩->PS (w.setCell ⟨P,0,none⟩ (.slice (some ⟨W,o+2,none⟩) r.length (c-1))) P W s (nxt s p) gv nest):=by
  intro ht;have e:=hr2 ht;rw[e];have hln:(toks s (nxt s p)).length=r.length:=by rw[e]
  refine h.turn (by omega) (by omega) hne λi hi=>?_;have hi':i+1<(toks s p).length:=by rw[hl];omega
  have k:=hw (i+1) hi';have ei:(toks s p)[i+1]=(toks s (nxt s p))[i]:=by simp[hr,e]
  rw[ei,show o+(i+1)*2=o+2+i*2 by omega]at k;exact k
 have HZ:Hid (tokT s p≠⟨#[]⟩->0<r.length):=by
  intro ht;rw[hr2 ht];exact List.length_pos_iff.2 (toks_ne _ _)
 have f0:=h.f 0 (by omega);rw[hl]at h0 hc;clear hw hr hr2 h hl;generalize r.length=n at*;have i1:(1:Int)<=(n:Int)+1:=by omega
 have i2:(n:Int)+1<=(c:Int):=by omega
 go_enter Tryz.func34,Tryz.ntmps34;go_wp2
 ·refine bE ?_;exact⟨rfl,(EF.refl _ _).set _,λht=>by have:=HZ.out ht;omega⟩
 ·refine bE ?_;exact⟨rfl,(EF.refl _ _).set _,HT.out⟩
theorem fldW0(x y:Value)(w:World):Sem.run Tryz.prog (Instr.field 87 (.agg #[x,y]) 0) w=.ok x w:=by kernel_rfl
theorem fldW1(x y:Value)(w:World):Sem.run Tryz.prog (Instr.field 87 (.agg #[x,y]) 1) w=.ok y w:=by kernel_rfl
def pE'(adr:Nat->Addr)(k a:Nat):Value:=.iface 66 (.agg #[.iface 217 (.pointer (some (adr k))),.int .i64 0,.int .i64 (a:Int)])
theorem At_pl(t:TypeId)(x:Value)(n:Int)(w:World):Calls Tryz.prog 13 #[.iface t x,.int .i64 n] w λe w'=>e=.returned (.iface 66 (.agg #[.iface t x,.int .i64 0,.int .i64 n]))∧w'=w:=by
 go_enter Tryz.func13,Tryz.ntmps13;go_wp2;go_ret;exact⟨rfl,rfl⟩
theorem pwrong_any{w:World}{P W:Nat}{s:ByteArray}{p nest:Nat}{gv:Value}(adr:Nat->Addr)(k:Nat)(h:PS w P W s p gv nest)(hp:p<=s.size):
 Calls Tryz.prog 50 #[.pointer (some ⟨P,0,none⟩),.iface 217 (.pointer (some (adr k)))] w λe w'=>e=.returned (pE' adr k (tokA s p))∧Below w.heap.size w w':=by
 have HP:=hid (peek_any h hp);have F1:=fldW1;clear h;unfold pE';go_enter Tryz.func50,Tryz.ntmps50;go_wp2_with (first
  |(go_at_call 33;refine HP.out.mono ?_;rintro e w1 ⟨rfl,hb1⟩)
  |(go_at_call 13;refine(At_pl _ _ _ _).mono ?_;rintro e w2 ⟨rfl,rfl⟩))
 go_ret;exact⟨rfl,by assumption⟩
end Go.Proofs.YtlanckgcjijefaaGreatDoor
