import Derived.Test.YtciihepbeacppaaGreatM03
set_option maxRecDepth 100000
set_option maxHeartbeats 0
namespace Go.Proofs.YtciihepbeacppaaGreat
open Tryz Go.RowKit List World Below
set_option linter.unusedVariables false
theorem E3(f:Nat):∀(l:List UInt8) (L:List (List UInt8)),et f l=some L->(L.map List.length).sum<=l.length/\L.length<=l.length:=by
 induction f with
 |zero =>
  intro l L h;match l,h with
  |[],h=>simp[et]at h;subst h;simp
  |_::_,h=>simp[et]at h
 |succ f ih =>
  intro l L h;match l,h with
  |[],h=>simp[et]at h;subst h;simp
  |c::r,h =>
   simp only[et]at h;split at h
   .have:=ih r L h;simp;omega
   .split at h
    .cases h
    .rename_i hn;obtain⟨L',hL',rfl⟩:=Option.map_eq_some_iff.1 h;have:=ih _ L' hL';have hw:=uG (c::r);generalize hwl:bO (c::r)=n at *;simp only[length_drop,length_cons,map_cons,sum_cons,length_take]at *;omega
theorem Zg(ws:List ByteArray):(jn ws).length<=(ws.map (λx=>x.data.toList.length)).sum+ws.length:=by
 match ws with
 |[]=>simp[jn]
 |x::r =>
  have:∀r:List ByteArray,(r.flatMap (λy=>32::y.data.toList)).length<=(r.map (λx=>x.data.toList.length)).sum+r.length:=by
   intro r;induction r with
   |nil=>simp
   |cons y r ih=>simp only[flatMap_cons,length_append,length_cons,map_cons,sum_cons];omega
  have:=this r;simp only[jn,length_append,map_cons,sum_cons,length_cons];omega
def gY(l:List UInt8):List ByteArray:=((nI l).getD []).map (λx=>⟨x.toArray⟩)
theorem ZT{l:List UInt8}{ws:List ByteArray}(h:nI l=some (ws.map (·.data.toList))):gY l=ws:=by
 unfold gY;rw[h];simp only[Option.getD_some,map_map];conv=>rhs;rw[<-map_id ws]
 apply map_congr_left;intro x _;simp
theorem zm{l:List UInt8}{ws:List ByteArray}(h:nI l=some (ws.map (·.data.toList))):ws.length<=l.length/\(jn ws).length<=2*l.length:=by
 have h1:=E3 _ _ _ h;have h2:=Zg ws;simp only[map_map,length_map]at h1;have h3:(List.map (List.length ∘ λx:ByteArray=>x.data.toList) ws)=ws.map (λx=>x.data.toList.length):=rfl;rw[h3]at h1;omega
def a9:PS:=⟨0,false,[],[],[]⟩
def dI(l:List UInt8):PS:=dH (gY l) a9
def lY(l:List UInt8):Nat :=
 if 240<l.length then 1 else if nI l=none then 2 else if (dI l).failed=true then 3 else if 4<(dI l).vars.length\/8<(dI l).hid.length then 4 else 0
def Xd(B:Nat)(w:World)(Q:Nat)(ws:List ByteArray)(s:PS)(al:List bt):Prop :=
 ∃vv pv nv:Value,w.heap[Q]?=some (.cells #[.string ⟨(jn ws).toArray⟩,vv,pv,nv] 105 (0,0))/\B<=Q /\
  w.ownsRow B 5 1 vv s.vars.length (bc s.vars)/\w.ownsRow B 239 5 pv al.length (bh al)/\w.ownsRow B 186 6 nv s.nodes.length (a7 s.nodes)
def S9:Obj:=.cells #[.slice none 0 0,.int .i64 0,.bool false,.slice none 0 0,.slice none 0 0,.slice none 0 0] 133
theorem Ta(w:World)(B:Nat)(hB:B<=w.heap.size):ee B (.slice none 0 0) (w.alloc S9) w.heap.size [] a9 [w.heap.size] :=
 ⟨⟨.slice none 0 0,.slice none 0 0,.slice none 0 0,.slice none 0 0,heap_alloc_new w _,⟨hB,rfl⟩,ownsRow_nil _ _ _ _,ownsRow_nil _ _ _ _,ownsRow_nil _ _ _ _,ownsRow_nil _ _ _ _,rfl,by simp⟩,by simp[Cv,a9]⟩
theorem ud{w w':World}{B:Nat}{e:TypeId}{sz n:Nat}{v:Value}{xs:List Value}(h:w.ownsRow B e sz v n xs)(hb:Below w.heap.size w w'):w'.ownsRow B e sz v n xs :=
 ae h (λk hk=>hb.block k (h.lt k hk).2)
theorem ON{l:List UInt8}(h:240<l.length):lY l=1:=by unfold lY;rw[if_pos h]
theorem TU{l:List UInt8}(h:¬ 240<l.length)(h2:nI l=none):lY l=2:=by unfold lY;rw[if_neg h,if_pos h2]
theorem TV{l:List UInt8}(h:¬ 240<l.length)(h2:nI l≠none)(h3:(dI l).failed=true):lY l=3:=by unfold lY;rw[if_neg h,if_neg h2,if_pos h3]
theorem xr{l:List UInt8}(h:¬ 240<l.length)(h2:nI l≠none)(h3:(dI l).failed=false)(h4:4<(dI l).vars.length\/8<(dI l).hid.length):lY l=4:=by
 unfold lY;rw[if_neg h,if_neg h2,if_neg (by simp[h3]),if_pos h4]
theorem ZR{l:List UInt8}(h:¬ 240<l.length)(h2:nI l≠none)(h3:(dI l).failed=false)(h4:¬ (4<(dI l).vars.length\/8<(dI l).hid.length)):lY l=0:=by
 unfold lY;rw[if_neg h,if_neg h2,if_neg (by simp[h3]),if_neg h4]
theorem am.ofBelow{F:List Nat}{w w':World}(h:Below w.heap.size w w'):am F w F w' :=
 ⟨h.os,h.tape,h.output,h.size,λk hk _=>h.block k hk,λ_ hk=>zq0 hk⟩
theorem jQ.belowP{B:Nat}{WV:Value}{w w':World}{P:Nat}{ws:List ByteArray}{s:PS}{F:List Nat}(h:jQ B WV w P ws s F)(hb:Below w.heap.size w w'):jQ B WV w' P ws s F :=
 h.of_eq (λk hk=>hb.block k (h.mem k hk).2)
theorem TB{P:Nat}{a a' b c d:List Nat}(h:(P::(a++(b++(c++d)))).Nodup)(ha:a'.Nodup)(hg:∀k∈a',k ∉ P::(a++(b++(c++d)))):(P::(a'++(b++([]++d)))).Nodup:=by
 simp only[nodup_cons,nodup_append,mem_append,mem_cons,nil_append]at *;grind
theorem cU.reopen {B:Nat} {WV:Value} {w:World} {P:Nat} {ws:List ByteArray} {s:PS} {F:List Nat} {wv vv hv nv:Value} (h:cU B WV w P ws s F wv vv hv nv) {v:Value} {ws':List ByteArray}
  (aN:w.ownsRow B 9 1 v ws'.length (ws'.map Value.string)) (gQ:∀k,v.ownBlock=some k->k ∉ F) :
  jQ B v (((w.setCell ⟨P,0,none⟩ v).setCell ⟨P,1,none⟩ (.int .i64 0)).setCell ⟨P,4,none⟩ (.slice none 0 0)) P ws' { s with pos:=0,hid:=[] } (P::(v.ownBlock.toList++(vv.ownBlock.toList++([]++nv.ownBlock.toList)))):=by
 have fQ:=h.apart.1;obtain⟨hP,hB,h1,h2,h3,h4,hF,hN⟩:=h;have hPF:P∈F:=by rw[hF];simp
 have hk:∀k,k≠P->(((w.setCell ⟨P,0,none⟩ v).setCell ⟨P,1,none⟩ (.int .i64 0)).setCell ⟨P,4,none⟩ (.slice none 0 0)).heap[k]?=w.heap[k]?:=λk hk=>by
  rw[heap_setCell _ _ _ _ hk,heap_setCell _ _ _ _ hk,heap_setCell _ _ _ _ hk]
 refine⟨v,vv,.slice none 0 0,nv,vT (vT (vT hP _) _) _,⟨hB.1,rfl⟩,ae aN (λk e=>hk k (λe2=>gQ k e (by rw[e2];exact hPF))),ae h2 (λk e=>hk k (fQ k (by simp[e]))),ownsRow_nil _ _ _ _,ae h4 (λk e=>hk k (fQ k (by simp[e]))),rfl,?_⟩;rw[hF]at hN gQ;exact TB hN (by cases v.ownBlock <;> simp) (λk hk=>gQ k (by simpa using hk))
theorem Ot(x:ByteArray)(hx:x.size<=20000){B:Nat}{WV:Value}{w:World}{P:Nat}{ws:List ByteArray}{s:PS}{F:List Nat}(h:ee B WV w P ws s F)(hv:s.vars.length<=240):
  Calls prog 68 #[.pointer (some ⟨P,0,none⟩),.string x] w λe w'=>∃F',am F w F' w'/\((240<x.size/\e=.returned (.int .i64 1))\/(¬ 240<x.size/\nI x.data.toList=none/\e=.returned (.int .i64 2)) \/
   (¬ 240<x.size/\∃ws' v,nI x.data.toList=some (ws'.map (·.data.toList))/\e=.returned (.int .i64 0)/\ee B v w' P ws' { s with pos:=0,hid:=[] } F')):=by
 by_cases kt:240<x.size
 .go_enter func68,ntmps68;go_wp2_with fail
  go_ret;exact⟨F,am.refl _ _,zq0 ⟨kt,rfl⟩⟩
 .have HL:=ab kt;have hd:decide ((240:Int)<(x.size:Int))=false:=by simp;omega
  have HQ:=ab h;clear kt h;go_enter func68,ntmps68;go_wp2_with fail
  refine(Fc x w hx).mono ?_;rintro e w1 ⟨bP,(⟨tr,rfl⟩|⟨ws',v,tC,aN,rfl⟩)⟩
  .have HN:=ab tr;clear tr;go_wp2_with fail
   go_ret;exact⟨F,am.ofBelow bP,zq1 (zq0 ⟨uh HL,uh HN,rfl⟩)⟩
  .obtain⟨av,cv,rfl⟩:=bm aN;have HS:=ab tC;have HO:=ab aN;have HM:=ab ((uh HQ).m.belowP bP);have zF:=ab bP;obtain⟨wv,vv,Em,nv,dL⟩:=(uh HM).named;obtain⟨c0,ao,cap,By⟩:=dL.read0;obtain⟨c1,c2,c3,c4,c5,fz⟩:=dL.readsV;have f0:=fz 0;have f1:=fz 1;have f4:=fz 4;have u7:=ab dL;clear tC aN bP dL fz By;go_wp2_with fail
   go_ret;have dg:=zm (uh HS);rw[ci]at dg;have h1:=uh HL;have hm:=(uh HQ).m.mem;have jO:=(uh zF).size;have hB:B<=w.heap.size:=(by have:=hm P (uh HQ).m.memP;omega);refine⟨P::((Value.slice av ws'.length cv).ownBlock.toList++(vv.ownBlock.toList++([]++nv.ownBlock.toList))),?_,zq1 (zq1 ⟨h1,ws',.slice av ws'.length cv,uh HS,rfl,(uh u7).reopen (oO (uh HO) hB) (λk hk hF=>?_),by simp only[Cv];simp;omega⟩)⟩
   .have aE:=((((am.ofBelow (F:=F) (uh zF)).setCell (p:=⟨P,0,none⟩) (zq0 (uh HQ).m.memP) (.slice av ws'.length cv)).setCell (p:=⟨P,1,none⟩) (zq0 (uh HQ).m.memP) (.int .i64 0)).setCell (p:=⟨P,4,none⟩) (zq0 (uh HQ).m.memP) (.slice none 0 0));refine⟨aE.os,aE.tape,aE.output,aE.size,aE.block,λk hk=>?_⟩;have hFe:=(uh u7).2.2.2.2.2.2.1;simp only[mem_cons,mem_append,Option.mem_toList,not_mem_nil,false_or]at hk;rcases hk with rfl|hk|hk|hk
    .exact zq0 (uh HQ).m.memP
    .exact zq1 ((uh HO).lt k hk).1
    .left;rw[hFe];simp[hk]
    .left;rw[hFe];simp[hk]
   .have:=(hm k hF).2;have:=((uh HO).lt k hk).1;omega
theorem OO(s:ByteArray)(w:World)(hs:s.size<=20000):
  Calls prog 46 #[.string s] w λe w'=>Below w.heap.size w w' /\
   ((lY s.data.toList≠0/\e=.returned (.tuple #[.pointer none,.int .i64 (lY s.data.toList)])) \/
    (lY s.data.toList=0/\∃Q,e=.returned (.tuple #[.pointer (some ⟨Q,0,none⟩),.int .i64 0])/\Xd w.heap.size w' Q (gY s.data.toList) (dI s.data.toList) (gb (gY s.data.toList) a9))):=by
 have HQ0:=ab (Ta w w.heap.size (zq4 _));go_enter func46,ntmps46;go_wp2_with fail
 refine(Ot s hs (uh HQ0) (by simp[a9])).mono ?_;rintro e w1 ⟨F,bE,(⟨kt,rfl⟩|⟨kt,tr,rfl⟩|⟨kt,ws,v,tC,rfl,hq⟩)⟩
 .have HE:Hid (lY s.data.toList=1):=ab (ON (by rw[ci];exact kt));have cY:Hid (Below w.heap.size w w1):=ab (((am.refl [w.heap.size] w).alloc S9).trans bE |>.below (zq4 _) (by simp));clear kt bE;go_wp2_with fail
  go_ret2;exact⟨uh cY,zq0 ⟨by rw[uh HE];decide,by rw[uh HE];rfl⟩⟩
 .have HE:Hid (lY s.data.toList=2):=ab (TU (by rw[ci];exact kt) tr);have cY:Hid (Below w.heap.size w w1):=ab (((am.refl [w.heap.size] w).alloc S9).trans bE |>.below (zq4 _) (by simp));clear kt tr bE;go_wp2_with fail
  go_ret2;exact⟨uh cY,zq0 ⟨by rw[uh HE];decide,by rw[uh HE];rfl⟩⟩
 .have HL:Hid (¬ 240<s.data.toList.length):=ab (by rw[ci];exact kt)
  .have dg:=zm tC;rw[ci]at dg;have HW:Hid (gY s.data.toList=ws):=ab (ZT tC);have vY:Hid (nI s.data.toList≠none):=ab (by rw[tC];simp);have HQ:Hid (ee w.heap.size v w1 w.heap.size ws a9 F):=ab hq;have bC:=ab (((am.refl [w.heap.size] w).alloc S9).trans bE);have jO:=(uh bC).size;have rJ:s.size<=240:=(by omega);clear kt tC hq bE;go_wp2_with fail
   refine(BY (uh HQ) rfl).mono ?_;rintro e w2 ⟨pv,F2,rfl,bT,bK,aZ,Gp⟩;have Bs:=bT.f;obtain⟨wv,vv,hv,nv,dL⟩:=bT.m.named;obtain⟨st,aE⟩:∃st,st=dH ws a9:=⟨_,rfl⟩;have bA:Hid (dI s.data.toList=st):=ab (by rw[aE,dI,uh HW]);rw[<-aE]at bT dL;clear aE Bs;have ax:Below w.heap.size w w2:=((uh bC).trans bK).below (zq4 _) (by simp);obtain⟨_,c2,c3,c4,c5,_⟩:=dL.readsV;obtain⟨c0,ao,cap,rfl⟩:=dL.read0;obtain⟨a3,k3,rfl⟩:=bm dL.2.2.2.1;obtain⟨a4,k4,rfl⟩:=bm dL.2.2.2.2.1;obtain⟨a5,k5,rfl⟩:=bm dL.2.2.2.2.2.1;have zK:=ab (KS.of_own (dL.2.2.1:w2.ownsRow w.heap.size 9 1 (.slice ao ws.length cap) ws.length (ws.map Value.string)));have CD:=ab dL.2.2.2.1;have J6:=ab dL.2.2.2.2.2.1;have HRP:Hid (w2.ownsRow w.heap.size 239 5 pv (gb ws a9).length (bh (gb ws a9))):=ab (oO aZ (by omega));have bu:=ab ax;have wN:w.heap.size<w2.heap.size:=(bT.m.mem _ bT.m.memP).2;obtain⟨ap,kp,rfl⟩:=bm aZ;clear bT bK aZ Gp dL ax;cases hf:st.failed with
   |true =>
    rw[hf]at c2;have HE:Hid (lY s.data.toList=3):=ab (TV (uh HL) (uh vY) (by rw[uh bA];exact hf));clear hf;go_wp2_with fail
    go_ret2;exact⟨uh bu,zq0 ⟨by rw[uh HE];decide,by rw[uh HE];rfl⟩⟩
   |false =>
    rw[hf]at c2;by_cases h4:4<st.vars.length
    .have HE:Hid (lY s.data.toList=4):=ab (xr (uh HL) (uh vY) (by rw[uh bA];exact hf) (by rw[uh bA];exact zq0 h4));clear hf;go_wp2_with fail
     go_ret2;exact⟨uh bu,zq0 ⟨by rw[uh HE];decide,by rw[uh HE];rfl⟩⟩
    .have DY:decide ((4:Int)<(st.vars.length:Int))=false:=(by simp;omega);by_cases h8:8<st.hid.length
     .have HE:Hid (lY s.data.toList=4):=ab (xr (uh HL) (uh vY) (by rw[uh bA];exact hf) (by rw[uh bA];exact zq1 h8));clear hf;go_wp2_with fail
      go_ret2;exact⟨uh bu,zq0 ⟨by rw[uh HE];decide,by rw[uh HE];rfl⟩⟩
     .have hd8:decide ((8:Int)<(st.hid.length:Int))=false:=(by simp;omega);have HE:Hid (lY s.data.toList=0):=ab (ZR (uh HL) (uh vY) (by rw[uh bA];exact hf) (by rw[uh bA];omega));clear hf;go_wp2_with fail
      go_region_with (go_at_call 70;refine(NN ws (.slice ao ws.length cap) _ (by exact uh zK) (by omega) (by omega)).mono ?_;rintro e w5 ⟨b6,rfl⟩;have m3:=(b6.cell (p:=⟨w.heap.size,3,none⟩) wN).trans c3;have m5:=(b6.cell (p:=⟨w.heap.size,5,none⟩) wN).trans c5;have gH:Hid (Below w2.heap.size w2 w5):=ab ⟨b6.os,b6.tape,b6.output,b6.size,b6.block⟩;clear b6)
      all_goals
       go_wp2_with fail
       go_ret2;have b6:=uh gH;have hz5:=b6.size;have ef:=(uh bu).size;refine⟨((uh bu).trans (b6.mono ef)).alloc (by omega) _,zq1 ⟨uh HE,w5.heap.size,rfl,.slice a3 st.vars.length k3,.slice ap (gb ws a9).length kp,.slice a5 st.nodes.length k5,?_,by omega,?_,?_,?_⟩⟩
       .rw[uh HW];exact heap_alloc_new w5 _
       .rw[uh bA];exact(ud (uh CD) b6).alloc _
       .rw[uh HW];exact(ud (uh HRP) b6).alloc _
       .rw[uh bA];exact(ud (uh J6) b6).alloc _
