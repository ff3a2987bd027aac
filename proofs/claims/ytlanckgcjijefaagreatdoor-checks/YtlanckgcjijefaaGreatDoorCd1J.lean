import Derived.Test.YtlanckgcjijefaaGreatDoorPq6J
namespace Go.Proofs.YtlanckgcjijefaaGreatDoor
open Go.RowKit Go.Sort
def CD{α:Type}(r:Nat->Pr α):Prop:=∀p c a,r p=.error (c,a)->c=2∨c=3∨c=5
theorem cd_want(s t:ByteArray):CD (pWant s t):=by
 intro p c a h;unfold pWant at h;split at h<;>cases h;decide
theorem cd_name(s:ByteArray):CD (pName s):=by
 intro p c a h;unfold pName at h;split at h<;>cases h;decide
theorem cd_tag(s:ByteArray)(m:Nat):CD (pTag s m):=by
 intro p c a h;unfold pTag at h;split at h
 ·split at h<;>cases h;decide
 ·cases h;decide
theorem cd_atom(s:ByteArray):CD (pAtom s):=by
 intro p c a h;unfold pAtom at h;split at h
 ·cases h
 ·split at h<;>cases h;decide
theorem cd_namesL(s:ByteArray):∀(f:Nat) (got:Nms),CD (pNamesL s f got)
 |0,_=>λp c a h=>by rw[pNamesL]at h;cases h;decide
 |f+1,got=>λp c a h=>by
  rw[pNamesL]at h;split at h
  ·cases h
  ·rcases pb_einv h with h1|⟨y,q,h1,h2⟩
   ·exact cd_name s p c a h1
   ·split at h2
    ·cases h2;decide
    ·exact cd_namesL s f _ q c a h2
theorem cd_names(s:ByteArray):CD (pNames s):=by
 intro p c a h;rcases pb_einv h with h1|⟨y,q,h1,h2⟩
 ·exact cd_want s _ p c a h1
 ·exact cd_namesL s _ _ q c a h2
section
variable {s:ByteArray} {E:Nat->Pr Ex} (hZ:CD E)
include hZ
theorem cd_more:∀(f:Nat) (got:List Ex),CD (pMore s E f got)
 |0,_=>λp c a h=>by rw[pMore]at h;cases h;decide
 |f+1,got=>λp c a h=>by
  rw[pMore]at h;split at h
  ·cases h
  ·rcases pb_einv h with h1|⟨y,q,h1,h2⟩
   ·exact hZ p c a h1
   ·exact cd_more f _ q c a h2
theorem cd_fields:∀(f:Nat) (got:List Ex),CD (pFields s E f got)
 |0,_=>λp c a h=>by rw[pFields]at h;cases h;decide
 |f+1,got=>λp c a h=>by
  rw[pFields]at h;split at h
  ·cases h
  ·split at h
   ·cases h;decide
   ·rcases pb_einv h with h1|⟨y,q,h1,h2⟩
    ·exact hZ p c a h1
    ·exact cd_fields f _ q c a h2
theorem cd_binds:∀(f:Nat) (ns:Nms) (es:List Ex),CD (pBinds s E f ns es)
 |0,_,_=>λp c a h=>by rw[pBinds]at h;cases h;decide
 |f+1,ns,es=>λp c a h=>by
  rw[pBinds]at h;rcases pb_einv h with h1|⟨y1,q1,h1,h⟩
  ·exact cd_want s _ p c a h1
  rcases pb_einv h with h1|⟨y2,q2,h1,h⟩
  ·exact cd_name s q1 c a h1
  split at h
  ·cases h;decide
  rcases pb_einv h with h1|⟨y3,q3,h1,h⟩
  ·exact hZ q2 c a h1
  rcases pb_einv h with h1|⟨y4,q4,h1,h⟩
  ·exact cd_want s _ q3 c a h1
  split at h
  ·cases h
  ·exact cd_binds f _ _ q4 c a h
theorem cd_brs:∀(f:Nat) (got:List (Nat×Nms×Ex)),CD (pBrs s E f got)
 |0,_=>λp c a h=>by rw[pBrs]at h;cases h;decide
 |f+1,got=>λp c a h=>by
  rw[pBrs]at h;rcases pb_einv h with h1|⟨y1,q1,h1,h⟩
  ·exact cd_want s _ p c a h1
  rcases pb_einv h with h1|⟨y2,q2,h1,h⟩
  ·exact cd_tag s _ q1 c a h1
  split at h
  ·cases h;decide
  rcases pb_einv h with h1|⟨y3,q3,h1,h⟩
  ·exact cd_names s q2 c a h1
  rcases pb_einv h with h1|⟨y4,q4,h1,h⟩
  ·exact hZ q3 c a h1
  rcases pb_einv h with h1|⟨y5,q5,h1,h⟩
  ·exact cd_want s _ q4 c a h1
  split at h
  ·cases h
  ·exact cd_brs f _ q5 c a h
theorem cd_lets(r:Bool):CD (pLets s E r):=by
 intro p c a h;rcases pb_einv h with h1|⟨y1,q1,h1,h⟩
 ·exact cd_want s _ p c a h1
 rcases pb_einv h with h1|⟨y2,q2,h1,h⟩
 ·exact cd_binds hZ _ _ _ q1 c a h1
 rcases pb_einv h with h1|⟨y3,q3,h1,h⟩
 ·exact cd_want s _ q2 c a h1
 rcases pb_einv h with h1|⟨y4,q4,h1,h⟩
 ·exact hZ q3 c a h1
 cases h
theorem cd_con:CD (pCon s E):=by
 intro p c a h;rcases pb_einv h with h1|⟨y1,q1,h1,h⟩
 ·exact cd_tag s _ p c a h1
 rcases pb_einv h with h1|⟨y2,q2,h1,h⟩
 ·exact cd_fields hZ _ _ q1 c a h1
 cases h
theorem cd_case:CD (pCase s E):=by
 intro p c a h;rcases pb_einv h with h1|⟨y1,q1,h1,h⟩
 ·exact hZ p c a h1
 rcases pb_einv h with h1|⟨y2,q2,h1,h⟩
 ·exact cd_brs hZ _ _ q1 c a h1
 cases h
theorem cd_call:CD (pCall s E):=by
 intro p c a h;rcases pb_einv h with h1|⟨y1,q1,h1,h⟩
 ·exact hZ p c a h1
 rcases pb_einv h with h1|⟨y2,q2,h1,h⟩
 ·exact hZ q1 c a h1
 rcases pb_einv h with h1|⟨y3,q3,h1,h⟩
 ·exact cd_more hZ _ _ q2 c a h1
 cases h
theorem cd_form:CD (pForm s E):=by
 intro p c a h;unfold pForm at h;split at h
 ·rcases pb_einv h with h1|⟨y1,q1,h1,h⟩
  ·exact hZ _ c a h1
  rcases pb_einv h with h1|⟨y2,q2,h1,h⟩
  ·exact hZ q1 c a h1
  cases h
 ·split at h
  ·exact cd_lets hZ _ _ c a h
  ·split at h
   ·exact cd_lets hZ _ _ c a h
   ·split at h
    ·exact cd_con hZ _ c a h
    ·split at h
     ·exact cd_case hZ _ c a h
     ·exact cd_call hZ _ c a h
end
theorem cd_E(s:ByteArray):∀d,CD (pE s d)
 |0=>λp c a h=>by
  rw[pE]at h;split at h
  ·cases h;decide
  ·exact cd_atom s p c a h
 |d+1=>λp c a h=>by
  rw[pE]at h;split at h
  ·rcases pb_einv h with h1|⟨y1,q1,h1,h⟩
   ·exact cd_form (cd_E s d) _ c a h1
   rcases pb_einv h with h1|⟨y2,q2,h1,h⟩
   ·exact cd_want s _ q1 c a h1
   cases h
  ·exact cd_atom s p c a h
theorem cd_wants(s:ByteArray):∀l,CD (pWants s l)
 |[]=>λp c a h=>by cases h
 |t::r=>λp c a h=>by
  rcases pb_einv h with h1|⟨y,q,h1,h⟩
  ·exact cd_want s _ p c a h1
  ·exact cd_wants s r q c a h
theorem cd_new(s:ByteArray)(l:List ByteArray):CD (pNew s l):=by
 intro p c a h;rcases pb_einv h with h1|⟨y,q,h1,h⟩
 ·exact cd_name s p c a h1
 ·split at h<;>cases h;decide
theorem cd_defn(s:ByteArray)(G:Nms):CD (pDefn s G):=by
 intro p c a h;rcases pb_einv h with h1|⟨y,q,h1,h⟩
 ·exact cd_new s _ p c a h1
 rcases pb_einv h with h1|⟨y2,q2,h1,h⟩
 ·exact cd_names s q c a h1
 rcases pb_einv h with h1|⟨y3,q3,h1,h⟩
 ·exact cd_E s 30 q2 c a h1
 rcases pb_einv h with h1|⟨y4,q4,h1,h⟩
 ·exact cd_want s _ q3 c a h1
 cases h
theorem cd_G(s:ByteArray)(G:Nms)(b:Bool):CD (pG s G b):=by
 intro p c a h;unfold pG at h;split at h
 ·rcases pb_einv h with h1|⟨y,q,h1,h⟩
  ·rcases pb_einv h1 with h1|⟨y,q,h1,h⟩
   ·exact cd_new s _ _ c a h1
   rcases pb_einv h with h1|⟨y2,q2,h1,h⟩
   ·exact cd_tag s _ q c a h1
   rcases pb_einv h with h1|⟨y3,q3,h1,h⟩
   ·exact cd_want s _ q2 c a h1
   cases h
  ·cases h
 ·rcases pb_einv h with h1|⟨y,q,h1,h⟩
  ·exact cd_want s _ _ c a h1
  rcases pb_einv h with h1|⟨y2,q2,h1,h⟩
  ·exact cd_defn s G q c a h1
  cases h
theorem cd_ML(s:ByteArray):∀(f:Nat) (G:Nms) (im:List IT) (df:List DD),CD (pML s f G im df)
 |0,_,_,_=>λp c a h=>by rw[pML]at h;cases h;decide
 |f+1,G,im,df=>λp c a h=>by
  rw[pML]at h;split at h
  ·rcases pb_einv h with h1|⟨y,q,h1,h⟩
   ·exact cd_G s G _ _ c a h1
   match y,h with
   |.inl i,h=>exact cd_ML s f _ _ _ q c a h
   |.inr d,h=>exact cd_ML s f _ _ _ q c a h
  ·rcases pb_einv h with h1|⟨y,q,h1,h⟩
   ·exact cd_wants s _ p c a h1
   cases h
theorem cd_mod(s:ByteArray):CD (pMod s):=by
 intro p c a h;rcases pb_einv h with h1|⟨y,q,h1,h⟩
 ·exact cd_wants s _ p c a h1
 rcases pb_einv h with h1|⟨y2,q2,h1,h⟩
 ·exact cd_new s _ q c a h1
 rcases pb_einv h with h1|⟨y3,q3,h1,h⟩
 ·exact cd_ML s _ _ _ _ q2 c a h1
 cases h
end Go.Proofs.YtlanckgcjijefaaGreatDoor
