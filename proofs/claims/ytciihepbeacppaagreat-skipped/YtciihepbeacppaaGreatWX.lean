import Derived.Test.YtciihepbeacppaaGreatM03
set_option maxRecDepth 100000
set_option maxHeartbeats 0
namespace Go.Proofs.YtciihepbeacppaaGreat
open Tryz Go.RowKit List World Below
set_option linter.unusedVariables false
theorem GO(f:Nat):∀(l:List UInt8) (L:List (List UInt8)),fG f l=some L->(L.map List.length).sum<=l.length/\L.length<=l.length:=by
 induction f with
 |zero =>
  intro l L h;match l,h with
  |[],h=>simp[fG]at h;subst h;simp
  |_::_,h=>simp[fG]at h
 |succ f ih =>
  intro l L h;match l,h with
  |[],h=>simp[fG]at h;subst h;simp
  |c::r,h =>
   simp only[fG]at h;split at h
   .have:=ih r L h;simp;omega
   .split at h
    .cases h
    .rename_i hn;obtain⟨L',hL',rfl⟩:=Option.map_eq_some_iff.1 h;have:=ih _ L' hL';have hw:=qj (c::r);generalize hwl:aR (c::r)=n at *;simp only[length_drop,length_cons,map_cons,sum_cons,length_take]at *;omega
theorem aaP(ws:List ByteArray):(jn ws).length<=(ws.map (λx=>x.data.toList.length)).sum+ws.length:=by
 match ws with
 |[]=>simp[jn]
 |x::r =>
  have:∀r:List ByteArray,(r.flatMap (λy=>32::y.data.toList)).length<=(r.map (λx=>x.data.toList.length)).sum+r.length:=by
   intro r;induction r with
   |nil=>simp
   |cons y r ih=>simp only[flatMap_cons,length_append,length_cons,map_cons,sum_cons];omega
  have:=this r;simp only[jn,length_append,map_cons,sum_cons,length_cons];omega
def qf(l:List UInt8):List ByteArray:=((je l).getD []).map (λx=>⟨x.toArray⟩)
theorem abF{l:List UInt8}{ws:List ByteArray}(h:je l=some (ws.map (·.data.toList))):qf l=ws:=by
 unfold qf;rw[h];simp only[Option.getD_some,map_map];conv=>rhs;rw[<-map_id ws]
 apply map_congr_left;intro x _;simp
theorem BO{l:List UInt8}{ws:List ByteArray}(h:je l=some (ws.map (·.data.toList))):ws.length<=l.length/\(jn ws).length<=2*l.length:=by
 have h1:=GO _ _ _ h;have h2:=aaP ws;simp only[map_map,length_map]at h1;have h3:(List.map (List.length ∘ λx:ByteArray=>x.data.toList) ws)=ws.map (λx=>x.data.toList.length):=rfl;rw[h3]at h1;omega
def bu:PS:=⟨0,false,[],[],[]⟩
def uL(l:List UInt8):PS:=fA (qf l) bu
def mQ(l:List UInt8):Nat :=
 if 240<l.length then 1 else if je l=none then 2 else if (uL l).failed=true then 3 else if 4<(uL l).vars.length\/8<(uL l).hid.length then 4 else 0
def YI(B:Nat)(w:World)(Q:Nat)(ws:List ByteArray)(s:PS)(al:List cj):Prop :=
 ∃vv pv nv:Value,w.heap[Q]?=some (.cells #[.string ⟨(jn ws).toArray⟩,vv,pv,nv] 105 (0,0))/\B<=Q /\
  w.ownsRow B 5 1 vv s.vars.length (bc s.vars)/\w.ownsRow B 239 5 pv al.length (bO al)/\w.ownsRow B 186 6 nv s.nodes.length (bi s.nodes)
def UW:Obj:=.cells #[.slice none 0 0,.int .i64 0,.bool false,.slice none 0 0,.slice none 0 0,.slice none 0 0] 133
theorem UX(w:World)(B:Nat)(hB:B<=w.heap.size):fj B (.slice none 0 0) (w.alloc UW) w.heap.size [] bu [w.heap.size] :=
 ⟨⟨.slice none 0 0,.slice none 0 0,.slice none 0 0,.slice none 0 0,heap_alloc_new w _,⟨hB,rfl⟩,ownsRow_nil _ _ _ _,ownsRow_nil _ _ _ _,ownsRow_nil _ _ _ _,ownsRow_nil _ _ _ _,rfl,by simp⟩,by simp[Ek,bu]⟩
theorem wZ{w w':World}{B:Nat}{e:TypeId}{sz n:Nat}{v:Value}{xs:List Value}(h:w.ownsRow B e sz v n xs)(hb:Below w.heap.size w w'):w'.ownsRow B e sz v n xs :=
 ae h (λk hk=>hb.block k (h.lt k hk).2)
theorem Q0{l:List UInt8}(h:240<l.length):mQ l=1:=by unfold mQ;rw[if_pos h]
theorem VN{l:List UInt8}(h:¬ 240<l.length)(h2:je l=none):mQ l=2:=by unfold mQ;rw[if_neg h,if_pos h2]
theorem VO{l:List UInt8}(h:¬ 240<l.length)(h2:je l≠none)(h3:(uL l).failed=true):mQ l=3:=by unfold mQ;rw[if_neg h,if_neg h2,if_pos h3]
theorem zH{l:List UInt8}(h:¬ 240<l.length)(h2:je l≠none)(h3:(uL l).failed=false)(h4:4<(uL l).vars.length\/8<(uL l).hid.length):mQ l=4:=by
 unfold mQ;rw[if_neg h,if_neg h2,if_neg (by simp[h3]),if_pos h4]
theorem Q1{l:List UInt8}(h:¬ 240<l.length)(h2:je l≠none)(h3:(uL l).failed=false)(h4:¬ (4<(uL l).vars.length\/8<(uL l).hid.length)):mQ l=0:=by
 unfold mQ;rw[if_neg h,if_neg h2,if_neg (by simp[h3]),if_neg h4]
theorem ar.ofBelow{F:List Nat}{w w':World}(h:Below w.heap.size w w'):ar F w F w' :=
 ⟨h.os,h.tape,h.output,h.size,λk hk _=>h.block k hk,λ_ hk=>zq0 hk⟩
theorem lU.belowP{B:Nat}{WV:Value}{w w':World}{P:Nat}{ws:List ByteArray}{s:PS}{F:List Nat}(h:lU B WV w P ws s F)(hb:Below w.heap.size w w'):lU B WV w' P ws s F :=
 h.of_eq (λk hk=>hb.block k (h.mem k hk).2)
theorem Vs{P:Nat}{a a' b c d:List Nat}(h:(P::(a++(b++(c++d)))).Nodup)(ha:a'.Nodup)(hg:∀k∈a',k ∉ P::(a++(b++(c++d)))):(P::(a'++(b++([]++d)))).Nodup:=by
 simp only[nodup_cons,nodup_append,mem_append,mem_cons,nil_append]at *;grind
theorem dI.reopen {B:Nat} {WV:Value} {w:World} {P:Nat} {ws:List ByteArray} {s:PS} {F:List Nat} {wv vv hv nv:Value} (h:dI B WV w P ws s F wv vv hv nv) {v:Value} {ws':List ByteArray}
  (aL:w.ownsRow B 9 1 v ws'.length (ws'.map Value.string)) (iH:∀k,v.ownBlock=some k->k ∉ F) :
  lU B v (((w.setCell ⟨P,0,none⟩ v).setCell ⟨P,1,none⟩ (.int .i64 0)).setCell ⟨P,4,none⟩ (.slice none 0 0)) P ws' { s with pos:=0,hid:=[] } (P::(v.ownBlock.toList++(vv.ownBlock.toList++([]++nv.ownBlock.toList)))):=by
 have eK:=h.apart.1;obtain⟨hP,hB,h1,h2,h3,h4,hF,hN⟩:=h;have hPF:P∈F:=by rw[hF];simp
 have hk:∀k,k≠P->(((w.setCell ⟨P,0,none⟩ v).setCell ⟨P,1,none⟩ (.int .i64 0)).setCell ⟨P,4,none⟩ (.slice none 0 0)).heap[k]?=w.heap[k]?:=λk hk=>by
  rw[heap_setCell _ _ _ _ hk,heap_setCell _ _ _ _ hk,heap_setCell _ _ _ _ hk]
 refine⟨v,vv,.slice none 0 0,nv,yC (yC (yC hP _) _) _,⟨hB.1,rfl⟩,ae aL (λk e=>hk k (λe2=>iH k e (by rw[e2];exact hPF))),ae h2 (λk e=>hk k (eK k (by simp[e]))),ownsRow_nil _ _ _ _,ae h4 (λk e=>hk k (eK k (by simp[e]))),rfl,?_⟩;rw[hF]at hN iH;exact Vs hN (by cases v.ownBlock <;> simp) (λk hk=>iH k (by simpa using hk))
theorem QA(x:ByteArray)(hx:x.size<=20000){B:Nat}{WV:Value}{w:World}{P:Nat}{ws:List ByteArray}{s:PS}{F:List Nat}(h:fj B WV w P ws s F)(hv:s.vars.length<=240):
  Calls prog 68 #[.pointer (some ⟨P,0,none⟩),.string x] w λe w'=>∃F',ar F w F' w'/\((240<x.size/\e=.returned (.int .i64 1))\/(¬ 240<x.size/\je x.data.toList=none/\e=.returned (.int .i64 2)) \/
   (¬ 240<x.size/\∃ws' v,je x.data.toList=some (ws'.map (·.data.toList))/\e=.returned (.int .i64 0)/\fj B v w' P ws' { s with pos:=0,hid:=[] } F')):=by
 by_cases my:240<x.size
 .go_enter func68,ntmps68;go_wp2_with fail
  go_ret;exact⟨F,ar.refl _ _,zq0 ⟨my,rfl⟩⟩
 .have HL:=ab my;have hd:decide ((240:Int)<(x.size:Int))=false:=by simp;omega
  have HQ:=ab h;clear my h;go_enter func68,ntmps68;go_wp2_with fail
  refine(GY x w hx).mono ?_;rintro e w1 ⟨cL,(⟨Dq,rfl⟩|⟨ws',v,wf,aL,rfl⟩)⟩
  .have HN:=ab Dq;clear Dq;go_wp2_with fail
   go_ret;exact⟨F,ar.ofBelow cL,zq1 (zq0 ⟨uh HL,uh HN,rfl⟩)⟩
  .obtain⟨av,cv,rfl⟩:=bD aL;have HS:=ab wf;have HO:=ab aL;have HM:=ab ((uh HQ).m.belowP cL);have G8:=ab cL;obtain⟨wv,vv,hv',nv,ez⟩:=(uh HM).named;obtain⟨c0,ao,cap,SM⟩:=ez.read0;obtain⟨c1,c2,c3,c4,c5,fz⟩:=ez.readsV;have f0:=fz 0;have f1:=fz 1;have f4:=fz 4;have yc:=ab ez;clear wf aL cL ez fz SM;go_wp2_with fail
   go_ret;have dO:=BO (uh HS);rw[bV]at dO;have h1:=uh HL;have hm:=(uh HQ).m.mem;have mP:=(uh G8).size;have hB:B<=w.heap.size:=(by have:=hm P (uh HQ).m.memP;omega);refine⟨P::((Value.slice av ws'.length cv).ownBlock.toList++(vv.ownBlock.toList++([]++nv.ownBlock.toList))),?_,zq1 (zq1 ⟨h1,ws',.slice av ws'.length cv,uh HS,rfl,(uh yc).reopen (rq (uh HO) hB) (λk hk hF=>?_),by simp only[Ek];simp;omega⟩)⟩
   .have aP:=((((ar.ofBelow (F:=F) (uh G8)).setCell (p:=⟨P,0,none⟩) (zq0 (uh HQ).m.memP) (.slice av ws'.length cv)).setCell (p:=⟨P,1,none⟩) (zq0 (uh HQ).m.memP) (.int .i64 0)).setCell (p:=⟨P,4,none⟩) (zq0 (uh HQ).m.memP) (.slice none 0 0));refine⟨aP.os,aP.tape,aP.output,aP.size,aP.block,λk hk=>?_⟩;have hFe:=(uh yc).2.2.2.2.2.2.1;simp only[mem_cons,mem_append,Option.mem_toList,not_mem_nil,false_or]at hk;rcases hk with rfl|hk|hk|hk
    .exact zq0 (uh HQ).m.memP
    .exact zq1 ((uh HO).lt k hk).1
    .left;rw[hFe];simp[hk]
    .left;rw[hFe];simp[hk]
   .have:=(hm k hF).2;have:=((uh HO).lt k hk).1;omega
theorem Q5(s:ByteArray)(w:World)(hs:s.size<=20000):
  Calls prog 46 #[.string s] w λe w'=>Below w.heap.size w w' /\
   ((mQ s.data.toList≠0/\e=.returned (.tuple #[.pointer none,.int .i64 (mQ s.data.toList)])) \/
    (mQ s.data.toList=0/\∃Q,e=.returned (.tuple #[.pointer (some ⟨Q,0,none⟩),.int .i64 0])/\YI w.heap.size w' Q (qf s.data.toList) (uL s.data.toList) (mD (qf s.data.toList) bu))):=by
 have HQ0:=ab (UX w w.heap.size (zq4 _));go_enter func46,ntmps46;go_wp2_with fail
 refine(QA s hs (uh HQ0) (by simp[bu])).mono ?_;rintro e w1 ⟨F,bU,(⟨my,rfl⟩|⟨my,Dq,rfl⟩|⟨my,ws,v,wf,rfl,hq⟩)⟩
 .have HE:Hid (mQ s.data.toList=1):=ab (Q0 (by rw[bV];exact my));have gb:Hid (Below w.heap.size w w1):=ab (((ar.refl [w.heap.size] w).alloc UW).trans bU |>.below (zq4 _) (by simp));clear my bU;go_wp2_with fail
  go_ret2;exact⟨uh gb,zq0 ⟨by rw[uh HE];decide,by rw[uh HE];rfl⟩⟩
 .have HE:Hid (mQ s.data.toList=2):=ab (VN (by rw[bV];exact my) Dq);have gb:Hid (Below w.heap.size w w1):=ab (((ar.refl [w.heap.size] w).alloc UW).trans bU |>.below (zq4 _) (by simp));clear my Dq bU;go_wp2_with fail
  go_ret2;exact⟨uh gb,zq0 ⟨by rw[uh HE];decide,by rw[uh HE];rfl⟩⟩
 .have HL:Hid (¬ 240<s.data.toList.length):=ab (by rw[bV];exact my)
  .have dO:=BO wf;rw[bV]at dO;have HW:Hid (qf s.data.toList=ws):=ab (abF wf);have uZ:Hid (je s.data.toList≠none):=ab (by rw[wf];simp);have HQ:Hid (fj w.heap.size v w1 w.heap.size ws bu F):=ab hq;have cI:=ab (((ar.refl [w.heap.size] w).alloc UW).trans bU);have mP:=(uh cI).size;have wd:s.size<=240:=(by omega);clear my wf hq bU;go_wp2_with fail
   refine(D0 (uh HQ) rfl).mono ?_;rintro e w2 ⟨pv,F2,rfl,ce,bZ,bt,II⟩;have Mv:=ce.f;obtain⟨wv,vv,hv,nv,ez⟩:=ce.m.named;obtain⟨st,aP⟩:∃st,st=fA ws bu:=⟨_,rfl⟩;have di:Hid (uL s.data.toList=st):=ab (by rw[aP,uL,uh HW]);rw[<-aP]at ce ez;clear aP Mv;have aW:Below w.heap.size w w2:=((uh cI).trans bZ).below (zq4 _) (by simp);obtain⟨_,c2,c3,c4,c5,_⟩:=ez.readsV;obtain⟨c0,ao,cap,rfl⟩:=ez.read0;obtain⟨a3,k3,rfl⟩:=bD ez.2.2.2.1;obtain⟨a4,k4,rfl⟩:=bD ez.2.2.2.2.1;obtain⟨a5,k5,rfl⟩:=bD ez.2.2.2.2.2.1;have Yy:=ab (MZ.of_own (ez.2.2.1:w2.ownsRow w.heap.size 9 1 (.slice ao ws.length cap) ws.length (ws.map Value.string)));have L6:=ab ez.2.2.2.1;have HR5:=ab ez.2.2.2.2.2.1;have HRP:Hid (w2.ownsRow w.heap.size 239 5 pv (mD ws bu).length (bO (mD ws bu))):=ab (rq bt (by omega));have eP:=ab aW;have zl:w.heap.size<w2.heap.size:=(ce.m.mem _ ce.m.memP).2;obtain⟨ap,kp,rfl⟩:=bD bt;clear ce bZ bt II ez aW;cases hf:st.failed with
   |true =>
    rw[hf]at c2;have HE:Hid (mQ s.data.toList=3):=ab (VO (uh HL) (uh uZ) (by rw[uh di];exact hf));clear hf;go_wp2_with fail
    go_ret2;exact⟨uh eP,zq0 ⟨by rw[uh HE];decide,by rw[uh HE];rfl⟩⟩
   |false =>
    rw[hf]at c2;by_cases h4:4<st.vars.length
    .have HE:Hid (mQ s.data.toList=4):=ab (zH (uh HL) (uh uZ) (by rw[uh di];exact hf) (by rw[uh di];exact zq0 h4));clear hf;go_wp2_with fail
     go_ret2;exact⟨uh eP,zq0 ⟨by rw[uh HE];decide,by rw[uh HE];rfl⟩⟩
    .have SE:decide ((4:Int)<(st.vars.length:Int))=false:=(by simp;omega);by_cases h8:8<st.hid.length
     .have HE:Hid (mQ s.data.toList=4):=ab (zH (uh HL) (uh uZ) (by rw[uh di];exact hf) (by rw[uh di];exact zq1 h8));clear hf;go_wp2_with fail
      go_ret2;exact⟨uh eP,zq0 ⟨by rw[uh HE];decide,by rw[uh HE];rfl⟩⟩
     .have hd8:decide ((8:Int)<(st.hid.length:Int))=false:=(by simp;omega);have HE:Hid (mQ s.data.toList=0):=ab (Q1 (uh HL) (uh uZ) (by rw[uh di];exact hf) (by rw[uh di];omega));clear hf;go_wp2_with fail
      go_region_with (go_at_call 70;refine(PX ws (.slice ao ws.length cap) _ (by exact uh Yy) (by omega) (by omega)).mono ?_;rintro e w5 ⟨eu,rfl⟩;have m3:=(eu.cell (p:=⟨w.heap.size,3,none⟩) zl).trans c3;have m5:=(eu.cell (p:=⟨w.heap.size,5,none⟩) zl).trans c5;have lO:Hid (Below w2.heap.size w2 w5):=ab ⟨eu.os,eu.tape,eu.output,eu.size,eu.block⟩;clear eu)
      all_goals
       go_wp2_with fail
       go_ret2;have eu:=uh lO;have hz5:=eu.size;have gL:=(uh eP).size;refine⟨((uh eP).trans (eu.mono gL)).alloc (by omega) _,zq1 ⟨uh HE,w5.heap.size,rfl,.slice a3 st.vars.length k3,.slice ap (mD ws bu).length kp,.slice a5 st.nodes.length k5,?_,by omega,?_,?_,?_⟩⟩
       .rw[uh HW];exact heap_alloc_new w5 _
       .rw[uh di];exact(wZ (uh L6) eu).alloc _
       .rw[uh HW];exact(wZ (uh HRP) eu).alloc _
       .rw[uh di];exact(wZ (uh HR5) eu).alloc _
