import Derived.Test.YtciihepbeacppaaGreatM03
set_option maxRecDepth 100000
set_option maxHeartbeats 0
namespace Go.Proofs.YtciihepbeacppaaGreat
open Tryz Go.RowKit List World Below
set_option linter.unusedVariables false
theorem GM(f:Nat):∀(l:List UInt8) (L:List (List UInt8)),fF f l=some L->(L.map List.length).sum<=l.length/\L.length<=l.length:=by
 induction f with
 |zero =>
  intro l L h;match l,h with
  |[],h=>simp[fF]at h;subst h;simp
  |_::_,h=>simp[fF]at h
 |succ f ih =>
  intro l L h;match l,h with
  |[],h=>simp[fF]at h;subst h;simp
  |c::r,h =>
   simp only[fF]at h;split at h
   .have:=ih r L h;simp;omega
   .split at h
    .cases h
    .rename_i hn;obtain⟨L',hL',rfl⟩:=Option.map_eq_some_iff.1 h;have:=ih _ L' hL';have hw:=qj (c::r);generalize hwl:aR (c::r)=n at *;simp only[length_drop,length_cons,map_cons,sum_cons,length_take]at *;omega
theorem aaN(ws:List ByteArray):(jn ws).length<=(ws.map (λx=>x.data.toList.length)).sum+ws.length:=by
 match ws with
 |[]=>simp[jn]
 |x::r =>
  have:∀r:List ByteArray,(r.flatMap (λy=>32::y.data.toList)).length<=(r.map (λx=>x.data.toList.length)).sum+r.length:=by
   intro r;induction r with
   |nil=>simp
   |cons y r ih=>simp only[flatMap_cons,length_append,length_cons,map_cons,sum_cons];omega
  have:=this r;simp only[jn,length_append,map_cons,sum_cons,length_cons];omega
def qe(l:List UInt8):List ByteArray:=((jc l).getD []).map (λx=>⟨x.toArray⟩)
theorem abD{l:List UInt8}{ws:List ByteArray}(h:jc l=some (ws.map (·.data.toList))):qe l=ws:=by
 unfold qe;rw[h];simp only[Option.getD_some,map_map];conv=>rhs;rw[<-map_id ws]
 apply map_congr_left;intro x _;simp
theorem BK{l:List UInt8}{ws:List ByteArray}(h:jc l=some (ws.map (·.data.toList))):ws.length<=l.length/\(jn ws).length<=2*l.length:=by
 have h1:=GM _ _ _ h;have h2:=aaN ws;simp only[map_map,length_map]at h1;have h3:(List.map (List.length ∘ λx:ByteArray=>x.data.toList) ws)=ws.map (λx=>x.data.toList.length):=rfl;rw[h3]at h1;omega
def bt:PS:=⟨0,false,[],[],[]⟩
def uI(l:List UInt8):PS:=fy (qe l) bt
def mP(l:List UInt8):Nat :=
 if 240<l.length then 1 else if jc l=none then 2 else if (uI l).failed=true then 3 else if 4<(uI l).vars.length\/8<(uI l).hid.length then 4 else 0
def YG(B:Nat)(w:World)(Q:Nat)(ws:List ByteArray)(s:PS)(al:List ci):Prop :=
 ∃vv pv nv:Value,w.heap[Q]?=some (.cells #[.string ⟨(jn ws).toArray⟩,vv,pv,nv] 105 (0,0))/\B<=Q /\
  w.ownsRow B 5 1 vv s.vars.length (bc s.vars)/\w.ownsRow B 239 5 pv al.length (bN al)/\w.ownsRow B 186 6 nv s.nodes.length (bh s.nodes)
def UU:Obj:=.cells #[.slice none 0 0,.int .i64 0,.bool false,.slice none 0 0,.slice none 0 0,.slice none 0 0] 133
theorem UV(w:World)(B:Nat)(hB:B<=w.heap.size):fh B (.slice none 0 0) (w.alloc UU) w.heap.size [] bt [w.heap.size] :=
 ⟨⟨.slice none 0 0,.slice none 0 0,.slice none 0 0,.slice none 0 0,heap_alloc_new w _,⟨hB,rfl⟩,ownsRow_nil _ _ _ _,ownsRow_nil _ _ _ _,ownsRow_nil _ _ _ _,ownsRow_nil _ _ _ _,rfl,by simp⟩,by simp[Ei,bt]⟩
theorem wW{w w':World}{B:Nat}{e:TypeId}{sz n:Nat}{v:Value}{xs:List Value}(h:w.ownsRow B e sz v n xs)(hb:Below w.heap.size w w'):w'.ownsRow B e sz v n xs :=
 ae h (λk hk=>hb.block k (h.lt k hk).2)
theorem QY{l:List UInt8}(h:240<l.length):mP l=1:=by unfold mP;rw[if_pos h]
theorem VL{l:List UInt8}(h:¬ 240<l.length)(h2:jc l=none):mP l=2:=by unfold mP;rw[if_neg h,if_pos h2]
theorem VM{l:List UInt8}(h:¬ 240<l.length)(h2:jc l≠none)(h3:(uI l).failed=true):mP l=3:=by unfold mP;rw[if_neg h,if_neg h2,if_pos h3]
theorem zE{l:List UInt8}(h:¬ 240<l.length)(h2:jc l≠none)(h3:(uI l).failed=false)(h4:4<(uI l).vars.length\/8<(uI l).hid.length):mP l=4:=by
 unfold mP;rw[if_neg h,if_neg h2,if_neg (by simp[h3]),if_pos h4]
theorem QZ{l:List UInt8}(h:¬ 240<l.length)(h2:jc l≠none)(h3:(uI l).failed=false)(h4:¬ (4<(uI l).vars.length\/8<(uI l).hid.length)):mP l=0:=by
 unfold mP;rw[if_neg h,if_neg h2,if_neg (by simp[h3]),if_neg h4]
theorem ar.ofBelow{F:List Nat}{w w':World}(h:Below w.heap.size w w'):ar F w F w' :=
 ⟨h.os,h.tape,h.output,h.size,λk hk _=>h.block k hk,λ_ hk=>zq0 hk⟩
theorem lT.belowP{B:Nat}{WV:Value}{w w':World}{P:Nat}{ws:List ByteArray}{s:PS}{F:List Nat}(h:lT B WV w P ws s F)(hb:Below w.heap.size w w'):lT B WV w' P ws s F :=
 h.of_eq (λk hk=>hb.block k (h.mem k hk).2)
theorem Vp{P:Nat}{a a' b c d:List Nat}(h:(P::(a++(b++(c++d)))).Nodup)(ha:a'.Nodup)(hg:∀k∈a',k ∉ P::(a++(b++(c++d)))):(P::(a'++(b++([]++d)))).Nodup:=by
 simp only[nodup_cons,nodup_append,mem_append,mem_cons,nil_append]at *;grind
theorem dH.reopen {B:Nat} {WV:Value} {w:World} {P:Nat} {ws:List ByteArray} {s:PS} {F:List Nat} {wv vv hv nv:Value} (h:dH B WV w P ws s F wv vv hv nv) {v:Value} {ws':List ByteArray}
  (aL:w.ownsRow B 9 1 v ws'.length (ws'.map Value.string)) (iF:∀k,v.ownBlock=some k->k ∉ F) :
  lT B v (((w.setCell ⟨P,0,none⟩ v).setCell ⟨P,1,none⟩ (.int .i64 0)).setCell ⟨P,4,none⟩ (.slice none 0 0)) P ws' { s with pos:=0,hid:=[] } (P::(v.ownBlock.toList++(vv.ownBlock.toList++([]++nv.ownBlock.toList)))):=by
 have eJ:=h.apart.1;obtain⟨hP,hB,h1,h2,h3,h4,hF,hN⟩:=h;have hPF:P∈F:=by rw[hF];simp
 have hk:∀k,k≠P->(((w.setCell ⟨P,0,none⟩ v).setCell ⟨P,1,none⟩ (.int .i64 0)).setCell ⟨P,4,none⟩ (.slice none 0 0)).heap[k]?=w.heap[k]?:=λk hk=>by
  rw[heap_setCell _ _ _ _ hk,heap_setCell _ _ _ _ hk,heap_setCell _ _ _ _ hk]
 refine⟨v,vv,.slice none 0 0,nv,yz (yz (yz hP _) _) _,⟨hB.1,rfl⟩,ae aL (λk e=>hk k (λe2=>iF k e (by rw[e2];exact hPF))),ae h2 (λk e=>hk k (eJ k (by simp[e]))),ownsRow_nil _ _ _ _,ae h4 (λk e=>hk k (eJ k (by simp[e]))),rfl,?_⟩;rw[hF]at hN iF;exact Vp hN (by cases v.ownBlock <;> simp) (λk hk=>iF k (by simpa using hk))
theorem Qy(x:ByteArray)(hx:x.size<=20000){B:Nat}{WV:Value}{w:World}{P:Nat}{ws:List ByteArray}{s:PS}{F:List Nat}(h:fh B WV w P ws s F)(hv:s.vars.length<=240):
  Calls prog 68 #[.pointer (some ⟨P,0,none⟩),.string x] w λe w'=>∃F',ar F w F' w'/\((240<x.size/\e=.returned (.int .i64 1))\/(¬ 240<x.size/\jc x.data.toList=none/\e=.returned (.int .i64 2)) \/
   (¬ 240<x.size/\∃ws' v,jc x.data.toList=some (ws'.map (·.data.toList))/\e=.returned (.int .i64 0)/\fh B v w' P ws' { s with pos:=0,hid:=[] } F')):=by
 by_cases mx:240<x.size
 .go_enter func68,ntmps68;go_wp2_with fail
  go_ret;exact⟨F,ar.refl _ _,zq0 ⟨mx,rfl⟩⟩
 .have HL:=ab mx;have hd:decide ((240:Int)<(x.size:Int))=false:=by simp;omega
  have HQ:=ab h;clear mx h;go_enter func68,ntmps68;go_wp2_with fail
  refine(GW x w hx).mono ?_;rintro e w1 ⟨cK,(⟨Do,rfl⟩|⟨ws',v,v9,aL,rfl⟩)⟩
  .have HN:=ab Do;clear Do;go_wp2_with fail
   go_ret;exact⟨F,ar.ofBelow cK,zq1 (zq0 ⟨uh HL,uh HN,rfl⟩)⟩
  .obtain⟨av,cv,rfl⟩:=bC aL;have HS:=ab v9;have HO:=ab aL;have HM:=ab ((uh HQ).m.belowP cK);have GZ:=ab cK;obtain⟨wv,vv,hv',nv,ew⟩:=(uh HM).named;obtain⟨c0,ao,cap,SK⟩:=ew.read0;obtain⟨c1,c2,c3,c4,c5,fz⟩:=ew.readsV;have f0:=fz 0;have f1:=fz 1;have f4:=fz 4;have x8:=ab ew;clear v9 aL cK ew fz SK;go_wp2_with fail
   go_ret;have dN:=BK (uh HS);rw[bU]at dN;have h1:=uh HL;have hm:=(uh HQ).m.mem;have mO:=(uh GZ).size;have hB:B<=w.heap.size:=(by have:=hm P (uh HQ).m.memP;omega);refine⟨P::((Value.slice av ws'.length cv).ownBlock.toList++(vv.ownBlock.toList++([]++nv.ownBlock.toList))),?_,zq1 (zq1 ⟨h1,ws',.slice av ws'.length cv,uh HS,rfl,(uh x8).reopen (rq (uh HO) hB) (λk hk hF=>?_),by simp only[Ei];simp;omega⟩)⟩
   .have aP:=((((ar.ofBelow (F:=F) (uh GZ)).setCell (p:=⟨P,0,none⟩) (zq0 (uh HQ).m.memP) (.slice av ws'.length cv)).setCell (p:=⟨P,1,none⟩) (zq0 (uh HQ).m.memP) (.int .i64 0)).setCell (p:=⟨P,4,none⟩) (zq0 (uh HQ).m.memP) (.slice none 0 0));refine⟨aP.os,aP.tape,aP.output,aP.size,aP.block,λk hk=>?_⟩;have hFe:=(uh x8).2.2.2.2.2.2.1;simp only[mem_cons,mem_append,Option.mem_toList,not_mem_nil,false_or]at hk;rcases hk with rfl|hk|hk|hk
    .exact zq0 (uh HQ).m.memP
    .exact zq1 ((uh HO).lt k hk).1
    .left;rw[hFe];simp[hk]
    .left;rw[hFe];simp[hk]
   .have:=(hm k hF).2;have:=((uh HO).lt k hk).1;omega
theorem Q3(s:ByteArray)(w:World)(hs:s.size<=20000):
  Calls prog 46 #[.string s] w λe w'=>Below w.heap.size w w' /\
   ((mP s.data.toList≠0/\e=.returned (.tuple #[.pointer none,.int .i64 (mP s.data.toList)])) \/
    (mP s.data.toList=0/\∃Q,e=.returned (.tuple #[.pointer (some ⟨Q,0,none⟩),.int .i64 0])/\YG w.heap.size w' Q (qe s.data.toList) (uI s.data.toList) (mC (qe s.data.toList) bt))):=by
 have HQ0:=ab (UV w w.heap.size (zq4 _));go_enter func46,ntmps46;go_wp2_with fail
 refine(Qy s hs (uh HQ0) (by simp[bt])).mono ?_;rintro e w1 ⟨F,bT,(⟨mx,rfl⟩|⟨mx,Do,rfl⟩|⟨mx,ws,v,v9,rfl,hq⟩)⟩
 .have HE:Hid (mP s.data.toList=1):=ab (QY (by rw[bU];exact mx));have f8:Hid (Below w.heap.size w w1):=ab (((ar.refl [w.heap.size] w).alloc UU).trans bT |>.below (zq4 _) (by simp));clear mx bT;go_wp2_with fail
  go_ret2;exact⟨uh f8,zq0 ⟨by rw[uh HE];decide,by rw[uh HE];rfl⟩⟩
 .have HE:Hid (mP s.data.toList=2):=ab (VL (by rw[bU];exact mx) Do);have f8:Hid (Below w.heap.size w w1):=ab (((ar.refl [w.heap.size] w).alloc UU).trans bT |>.below (zq4 _) (by simp));clear mx Do bT;go_wp2_with fail
  go_ret2;exact⟨uh f8,zq0 ⟨by rw[uh HE];decide,by rw[uh HE];rfl⟩⟩
 .have HL:Hid (¬ 240<s.data.toList.length):=ab (by rw[bU];exact mx)
  .have dN:=BK v9;rw[bU]at dN;have HW:Hid (qe s.data.toList=ws):=ab (abD v9);have uW:Hid (jc s.data.toList≠none):=ab (by rw[v9];simp);have HQ:Hid (fh w.heap.size v w1 w.heap.size ws bt F):=ab hq;have cH:=ab (((ar.refl [w.heap.size] w).alloc UU).trans bT);have mO:=(uh cH).size;have v7:s.size<=240:=(by omega);clear mx v9 hq bT;go_wp2_with fail
   refine(DY (uh HQ) rfl).mono ?_;rintro e w2 ⟨pv,F2,rfl,cd,bY,br,IG⟩;have Mt:=cd.f;obtain⟨wv,vv,hv,nv,ew⟩:=cd.m.named;obtain⟨st,aP⟩:∃st,st=fy ws bt:=⟨_,rfl⟩;have dh:Hid (uI s.data.toList=st):=ab (by rw[aP,uI,uh HW]);rw[<-aP]at cd ew;clear aP Mt;have aW:Below w.heap.size w w2:=((uh cH).trans bY).below (zq4 _) (by simp);obtain⟨_,c2,c3,c4,c5,_⟩:=ew.readsV;obtain⟨c0,ao,cap,rfl⟩:=ew.read0;obtain⟨a3,k3,rfl⟩:=bC ew.2.2.2.1;obtain⟨a4,k4,rfl⟩:=bC ew.2.2.2.2.1;obtain⟨a5,k5,rfl⟩:=bC ew.2.2.2.2.2.1;have Yw:=ab (MX.of_own (ew.2.2.1:w2.ownsRow w.heap.size 9 1 (.slice ao ws.length cap) ws.length (ws.map Value.string)));have L4:=ab ew.2.2.2.1;have HR5:=ab ew.2.2.2.2.2.1;have HRP:Hid (w2.ownsRow w.heap.size 239 5 pv (mC ws bt).length (bN (mC ws bt))):=ab (rq br (by omega));have eO:=ab aW;have zh:w.heap.size<w2.heap.size:=(cd.m.mem _ cd.m.memP).2;obtain⟨ap,kp,rfl⟩:=bC br;clear cd bY br IG ew aW;cases hf:st.failed with
   |true =>
    rw[hf]at c2;have HE:Hid (mP s.data.toList=3):=ab (VM (uh HL) (uh uW) (by rw[uh dh];exact hf));clear hf;go_wp2_with fail
    go_ret2;exact⟨uh eO,zq0 ⟨by rw[uh HE];decide,by rw[uh HE];rfl⟩⟩
   |false =>
    rw[hf]at c2;by_cases h4:4<st.vars.length
    .have HE:Hid (mP s.data.toList=4):=ab (zE (uh HL) (uh uW) (by rw[uh dh];exact hf) (by rw[uh dh];exact zq0 h4));clear hf;go_wp2_with fail
     go_ret2;exact⟨uh eO,zq0 ⟨by rw[uh HE];decide,by rw[uh HE];rfl⟩⟩
    .have SC:decide ((4:Int)<(st.vars.length:Int))=false:=(by simp;omega);by_cases h8:8<st.hid.length
     .have HE:Hid (mP s.data.toList=4):=ab (zE (uh HL) (uh uW) (by rw[uh dh];exact hf) (by rw[uh dh];exact zq1 h8));clear hf;go_wp2_with fail
      go_ret2;exact⟨uh eO,zq0 ⟨by rw[uh HE];decide,by rw[uh HE];rfl⟩⟩
     .have hd8:decide ((8:Int)<(st.hid.length:Int))=false:=(by simp;omega);have HE:Hid (mP s.data.toList=0):=ab (QZ (uh HL) (uh uW) (by rw[uh dh];exact hf) (by rw[uh dh];omega));clear hf;go_wp2_with fail
      go_region_with (go_at_call 70;refine(PV ws (.slice ao ws.length cap) _ (by exact uh Yw) (by omega) (by omega)).mono ?_;rintro e w5 ⟨et,rfl⟩;have m3:=(et.cell (p:=⟨w.heap.size,3,none⟩) zh).trans c3;have m5:=(et.cell (p:=⟨w.heap.size,5,none⟩) zh).trans c5;have lN:Hid (Below w2.heap.size w2 w5):=ab ⟨et.os,et.tape,et.output,et.size,et.block⟩;clear et)
      all_goals
       go_wp2_with fail
       go_ret2;have et:=uh lN;have hz5:=et.size;have gK:=(uh eO).size;refine⟨((uh eO).trans (et.mono gK)).alloc (by omega) _,zq1 ⟨uh HE,w5.heap.size,rfl,.slice a3 st.vars.length k3,.slice ap (mC ws bt).length kp,.slice a5 st.nodes.length k5,?_,by omega,?_,?_,?_⟩⟩
       .rw[uh HW];exact heap_alloc_new w5 _
       .rw[uh dh];exact(wW (uh L4) et).alloc _
       .rw[uh HW];exact(wW (uh HRP) et).alloc _
       .rw[uh dh];exact(wW (uh HR5) et).alloc _
