import Derived.Test.YtciihepbeacppaaGreatM03
set_option maxRecDepth 100000
set_option maxHeartbeats 0
namespace Go.Proofs.YtciihepbeacppaaGreat
open Tryz Go.RowKit List World Below
set_option linter.unusedVariables false
theorem Fi(f:Nat):∀(l:List UInt8) (L:List (List UInt8)),et f l=some L->(L.map List.length).sum<=l.length/\L.length<=l.length:=by
 induction f with
 |zero =>
  intro l L h;match l,h with
  |[],h=>simp[et]at h;subst h;simp
  |_::_,h=>simp[et]at h
 |succ f ih =>
  intro l L h;match l,h with
  |[],h=>simp[et]at h;subst h;simp
  |c::r,h =>
   simp only[et]at h;split at h
   .have:=ih r L h;simp;omega
   .split at h
    .cases h
    .rename_i hn;obtain⟨L',hL',rfl⟩:=Option.map_eq_some_iff.1 h;have:=ih _ L' hL';have hw:=vo (c::r);generalize hwl:bn (c::r)=n at *;simp only[length_drop,length_cons,map_cons,sum_cons,length_take]at *;omega
theorem Z6(ws:List ByteArray):(jn ws).length<=(ws.map (λx=>x.data.toList.length)).sum+ws.length:=by
 match ws with
 |[]=>simp[jn]
 |x::r =>
  have:∀r:List ByteArray,(r.flatMap (λy=>32::y.data.toList)).length<=(r.map (λx=>x.data.toList.length)).sum+r.length:=by
   intro r;induction r with
   |nil=>simp
   |cons y r ih=>simp only[flatMap_cons,length_append,length_cons,map_cons,sum_cons];omega
  have:=this r;simp only[jn,length_append,map_cons,sum_cons,length_cons];omega
def bN(l:List UInt8):List ByteArray:=((ju l).getD []).map (λx=>⟨x.toArray⟩)
theorem PK{l:List UInt8}{ws:List ByteArray}(h:ju l=some (ws.map (·.data.toList))):bN l=ws:=by
 unfold bN;rw[h];simp only[Option.getD_some,map_map];conv=>rhs;rw[<-map_id ws]
 apply map_congr_left;intro x _;simp
theorem s9{l:List UInt8}{ws:List ByteArray}(h:ju l=some (ws.map (·.data.toList))):ws.length<=l.length/\(jn ws).length<=2*l.length:=by
 have h1:=Fi _ _ _ h;have h2:=Z6 ws;simp only[map_map,length_map]at h1;have h3:(List.map (List.length ∘ λx:ByteArray=>x.data.toList) ws)=ws.map (λx=>x.data.toList.length):=rfl;rw[h3]at h1;omega
def bY:PS:=⟨0,false,[],[],[]⟩
def b7(l:List UInt8):PS:=lu (bN l) bY
def lJ(l:List UInt8):Nat :=
 if 240<l.length then 1 else if ju l=none then 2 else if (b7 l).failed=true then 3 else if 4<(b7 l).vars.length\/8<(b7 l).hid.length then 4 else 0
def XR(B:Nat)(w:World)(Q:Nat)(ws:List ByteArray)(s:PS)(al:List bC):Prop :=
 ∃vv pv nv:Value,w.heap[Q]?=some (.cells #[.string ⟨(jn ws).toArray⟩,vv,pv,nv] 105 (0,0))/\B<=Q /\
  w.ownsRow B 5 1 vv s.vars.length (bc s.vars)/\w.ownsRow B 239 5 pv al.length (aW al)/\w.ownsRow B 186 6 nv s.nodes.length (bj s.nodes)
def J5:Obj:=.cells #[.slice none 0 0,.int .i64 0,.bool false,.slice none 0 0,.slice none 0 0,.slice none 0 0] 133
theorem GZ(w:World)(B:Nat)(hB:B<=w.heap.size):dP B (.slice none 0 0) (w.alloc J5) w.heap.size [] bY [w.heap.size] :=
 ⟨⟨.slice none 0 0,.slice none 0 0,.slice none 0 0,.slice none 0 0,heap_alloc_new w _,⟨hB,rfl⟩,ownsRow_nil _ _ _ _,ownsRow_nil _ _ _ _,ownsRow_nil _ _ _ _,ownsRow_nil _ _ _ _,rfl,by simp⟩,by simp[CW,bY]⟩
theorem uS{w w':World}{B:Nat}{e:TypeId}{sz n:Nat}{v:Value}{xs:List Value}(h:w.ownsRow B e sz v n xs)(hb:Below w.heap.size w w'):w'.ownsRow B e sz v n xs :=
 ae h (λk hk=>hb.block k (h.lt k hk).2)
theorem PI{l:List UInt8}(h:240<l.length):lJ l=1:=by unfold lJ;rw[if_pos h]
theorem UC{l:List UInt8}(h:¬ 240<l.length)(h2:ju l=none):lJ l=2:=by unfold lJ;rw[if_neg h,if_pos h2]
theorem UD{l:List UInt8}(h:¬ 240<l.length)(h2:ju l≠none)(h3:(b7 l).failed=true):lJ l=3:=by unfold lJ;rw[if_neg h,if_neg h2,if_pos h3]
theorem xT{l:List UInt8}(h:¬ 240<l.length)(h2:ju l≠none)(h3:(b7 l).failed=false)(h4:4<(b7 l).vars.length\/8<(b7 l).hid.length):lJ l=4:=by
 unfold lJ;rw[if_neg h,if_neg h2,if_neg (by simp[h3]),if_pos h4]
theorem aaU{l:List UInt8}(h:¬ 240<l.length)(h2:ju l≠none)(h3:(b7 l).failed=false)(h4:¬ (4<(b7 l).vars.length\/8<(b7 l).hid.length)):lJ l=0:=by
 unfold lJ;rw[if_neg h,if_neg h2,if_neg (by simp[h3]),if_neg h4]
theorem ar.ofBelow{F:List Nat}{w w':World}(h:Below w.heap.size w w'):ar F w F w' :=
 ⟨h.os,h.tape,h.output,h.size,λk hk _=>h.block k hk,λ_ hk=>zq0 hk⟩
theorem kw.belowP{B:Nat}{WV:Value}{w w':World}{P:Nat}{ws:List ByteArray}{s:PS}{F:List Nat}(h:kw B WV w P ws s F)(hb:Below w.heap.size w w'):kw B WV w' P ws s F :=
 h.of_eq (λk hk=>hb.block k (h.mem k hk).2)
theorem Ui{P:Nat}{a a' b c d:List Nat}(h:(P::(a++(b++(c++d)))).Nodup)(ha:a'.Nodup)(hg:∀k∈a',k ∉ P::(a++(b++(c++d)))):(P::(a'++(b++([]++d)))).Nodup:=by
 simp only[nodup_cons,nodup_append,mem_append,mem_cons,nil_append]at *;grind
theorem dd.reopen {B:Nat} {WV:Value} {w:World} {P:Nat} {ws:List ByteArray} {s:PS} {F:List Nat} {wv vv hv nv:Value} (h:dd B WV w P ws s F wv vv hv nv) {v:Value} {ws':List ByteArray}
  (aN:w.ownsRow B 9 1 v ws'.length (ws'.map Value.string)) (ik:∀k,v.ownBlock=some k->k ∉ F) :
  kw B v (((w.setCell ⟨P,0,none⟩ v).setCell ⟨P,1,none⟩ (.int .i64 0)).setCell ⟨P,4,none⟩ (.slice none 0 0)) P ws' { s with pos:=0,hid:=[] } (P::(v.ownBlock.toList++(vv.ownBlock.toList++([]++nv.ownBlock.toList)))):=by
 have fT:=h.apart.1;obtain⟨hP,hB,h1,h2,h3,h4,hF,hN⟩:=h;have hPF:P∈F:=by rw[hF];simp
 have hk:∀k,k≠P->(((w.setCell ⟨P,0,none⟩ v).setCell ⟨P,1,none⟩ (.int .i64 0)).setCell ⟨P,4,none⟩ (.slice none 0 0)).heap[k]?=w.heap[k]?:=λk hk=>by
  rw[heap_setCell _ _ _ _ hk,heap_setCell _ _ _ _ hk,heap_setCell _ _ _ _ hk]
 refine⟨v,vv,.slice none 0 0,nv,wG (wG (wG hP _) _) _,⟨hB.1,rfl⟩,ae aN (λk e=>hk k (λe2=>ik k e (by rw[e2];exact hPF))),ae h2 (λk e=>hk k (fT k (by simp[e]))),ownsRow_nil _ _ _ _,ae h4 (λk e=>hk k (fT k (by simp[e]))),rfl,?_⟩;rw[hF]at hN ik;exact Ui hN (by cases v.ownBlock <;> simp) (λk hk=>ik k (by simpa using hk))
theorem Cw(x:ByteArray)(hx:x.size<=20000){B:Nat}{WV:Value}{w:World}{P:Nat}{ws:List ByteArray}{s:PS}{F:List Nat}(h:dP B WV w P ws s F)(hv:s.vars.length<=240):
  Calls prog 68 #[.pointer (some ⟨P,0,none⟩),.string x] w λe w'=>∃F',ar F w F' w'/\((240<x.size/\e=.returned (.int .i64 1))\/(¬ 240<x.size/\ju x.data.toList=none/\e=.returned (.int .i64 2)) \/
   (¬ 240<x.size/\∃ws' v,ju x.data.toList=some (ws'.map (·.data.toList))/\e=.returned (.int .i64 0)/\dP B v w' P ws' { s with pos:=0,hid:=[] } F')):=by
 by_cases eB:240<x.size
 .go_enter func68,ntmps68;go_wp2_with fail
  go_ret;exact⟨F,ar.refl _ _,zq0 ⟨eB,rfl⟩⟩
 .have HL:=ab eB;have hd:decide ((240:Int)<(x.size:Int))=false:=by simp;omega
  have HQ:=ab h;clear eB h;go_enter func68,ntmps68;go_wp2_with fail
  refine(Fy x w hx).mono ?_;rintro e w1 ⟨bS,(⟨rJ,rfl⟩|⟨ws',v,ll,aN,rfl⟩)⟩
  .have HN:=ab rJ;clear rJ;go_wp2_with fail
   go_ret;exact⟨F,ar.ofBelow bS,zq1 (zq0 ⟨uh HL,uh HN,rfl⟩)⟩
  .obtain⟨av,cv,rfl⟩:=aC aN;have HS:=ab ll;have HO:=ab aN;have HM:=ab ((uh HQ).m.belowP bS);have FA:=ab bS;obtain⟨wv,vv,K1,nv,cW⟩:=(uh HM).named;obtain⟨c0,ao,cap,Cf⟩:=cW.read0;obtain⟨c1,c2,c3,c4,c5,fz⟩:=cW.readsV;have f0:=fz 0;have f1:=fz 1;have f4:=fz 4;have vP:=ab cW;clear ll aN bS cW fz Cf;go_wp2_with fail
   go_ret;have cN:=s9 (uh HS);rw[bR]at cN;have h1:=uh HL;have hm:=(uh HQ).m.mem;have ko:=(uh FA).size;have hB:B<=w.heap.size:=(by have:=hm P (uh HQ).m.memP;omega);refine⟨P::((Value.slice av ws'.length cv).ownBlock.toList++(vv.ownBlock.toList++([]++nv.ownBlock.toList))),?_,zq1 (zq1 ⟨h1,ws',.slice av ws'.length cv,uh HS,rfl,(uh vP).reopen (eM (uh HO) hB) (λk hk hF=>?_),by simp only[CW];simp;omega⟩)⟩
   .have aE:=((((ar.ofBelow (F:=F) (uh FA)).setCell (p:=⟨P,0,none⟩) (zq0 (uh HQ).m.memP) (.slice av ws'.length cv)).setCell (p:=⟨P,1,none⟩) (zq0 (uh HQ).m.memP) (.int .i64 0)).setCell (p:=⟨P,4,none⟩) (zq0 (uh HQ).m.memP) (.slice none 0 0));refine⟨aE.os,aE.tape,aE.output,aE.size,aE.block,λk hk=>?_⟩;have hFe:=(uh vP).2.2.2.2.2.2.1;simp only[mem_cons,mem_append,Option.mem_toList,not_mem_nil,false_or]at hk;rcases hk with rfl|hk|hk|hk
    .exact zq0 (uh HQ).m.memP
    .exact zq1 ((uh HO).lt k hk).1
    .left;rw[hFe];simp[hk]
    .left;rw[hFe];simp[hk]
   .have:=(hm k hF).2;have:=((uh HO).lt k hk).1;omega
theorem PM(s:ByteArray)(w:World)(hs:s.size<=20000):
  Calls prog 46 #[.string s] w λe w'=>Below w.heap.size w w' /\
   ((lJ s.data.toList≠0/\e=.returned (.tuple #[.pointer none,.int .i64 (lJ s.data.toList)])) \/
    (lJ s.data.toList=0/\∃Q,e=.returned (.tuple #[.pointer (some ⟨Q,0,none⟩),.int .i64 0])/\XR w.heap.size w' Q (bN s.data.toList) (b7 s.data.toList) (fZ (bN s.data.toList) bY))):=by
 have XJ:=ab (GZ w w.heap.size (zq4 _));go_enter func46,ntmps46;go_wp2_with fail
 refine(Cw s hs (uh XJ) (by simp[bY])).mono ?_;rintro e w1 ⟨F,bq,(⟨eB,rfl⟩|⟨eB,rJ,rfl⟩|⟨eB,ws,v,ll,rfl,hq⟩)⟩
 .have HE:Hid (lJ s.data.toList=1):=ab (PI (by rw[bR];exact eB));have dm:Hid (Below w.heap.size w w1):=ab (((ar.refl [w.heap.size] w).alloc J5).trans bq |>.below (zq4 _) (by simp));clear eB bq;go_wp2_with fail
  go_ret2;exact⟨uh dm,zq0 ⟨by rw[uh HE];decide,by rw[uh HE];rfl⟩⟩
 .have HE:Hid (lJ s.data.toList=2):=ab (UC (by rw[bR];exact eB) rJ);have dm:Hid (Below w.heap.size w w1):=ab (((ar.refl [w.heap.size] w).alloc J5).trans bq |>.below (zq4 _) (by simp));clear eB rJ bq;go_wp2_with fail
  go_ret2;exact⟨uh dm,zq0 ⟨by rw[uh HE];decide,by rw[uh HE];rfl⟩⟩
 .have HL:Hid (¬ 240<s.data.toList.length):=ab (by rw[bR];exact eB)
  .have cN:=s9 ll;rw[bR]at cN;have HW:Hid (bN s.data.toList=ws):=ab (PK ll);have tC:Hid (ju s.data.toList≠none):=ab (by rw[ll];simp);have HQ:Hid (dP w.heap.size v w1 w.heap.size ws bY F):=ab hq;have bT:=ab (((ar.refl [w.heap.size] w).alloc J5).trans bq);have ko:=(uh bT).size;have yY:s.size<=240:=(by omega);clear eB ll hq bq;go_wp2_with fail
   refine(CD (uh HQ) rfl).mono ?_;rintro e w2 ⟨pv,F2,rfl,bP,bE,aT,pC⟩;have hp2:=bP.f;obtain⟨wv,vv,hv,nv,cW⟩:=bP.m.named;obtain⟨st,aE⟩:∃st,st=lu ws bY:=⟨_,rfl⟩;have cK:Hid (b7 s.data.toList=st):=ab (by rw[aE,b7,uh HW]);rw[<-aE]at bP cW;clear aE hp2;have aL:Below w.heap.size w w2:=((uh bT).trans bE).below (zq4 _) (by simp);obtain⟨_,c2,c3,c4,c5,_⟩:=cW.readsV;obtain⟨c0,ao,cap,rfl⟩:=cW.read0;obtain⟨a3,k3,rfl⟩:=aC cW.2.2.2.1;obtain⟨a4,k4,rfl⟩:=aC cW.2.2.2.2.1;obtain⟨a5,k5,rfl⟩:=aC cW.2.2.2.2.2.1;have XK:=ab (LE.of_own (cW.2.2.1:w2.ownsRow w.heap.size 9 1 (.slice ao ws.length cap) ws.length (ws.map Value.string)));have KI:=ab cW.2.2.2.1;have HR5:=ab cW.2.2.2.2.2.1;have HRP:Hid (w2.ownsRow w.heap.size 239 5 pv (fZ ws bY).length (aW (fZ ws bY))):=ab (eM aT (by omega));have cg:=ab aL;have xu:w.heap.size<w2.heap.size:=(bP.m.mem _ bP.m.memP).2;obtain⟨ap,kp,rfl⟩:=aC aT;clear bP bE aT pC cW aL;cases hf:st.failed with
   |true =>
    rw[hf]at c2;have HE:Hid (lJ s.data.toList=3):=ab (UD (uh HL) (uh tC) (by rw[uh cK];exact hf));clear hf;go_wp2_with fail
    go_ret2;exact⟨uh cg,zq0 ⟨by rw[uh HE];decide,by rw[uh HE];rfl⟩⟩
   |false =>
    rw[hf]at c2;by_cases h4:4<st.vars.length
    .have HE:Hid (lJ s.data.toList=4):=ab (xT (uh HL) (uh tC) (by rw[uh cK];exact hf) (by rw[uh cK];exact zq0 h4));clear hf;go_wp2_with fail
     go_ret2;exact⟨uh cg,zq0 ⟨by rw[uh HE];decide,by rw[uh HE];rfl⟩⟩
    .have Q6:decide ((4:Int)<(st.vars.length:Int))=false:=(by simp;omega);by_cases h8:8<st.hid.length
     .have HE:Hid (lJ s.data.toList=4):=ab (xT (uh HL) (uh tC) (by rw[uh cK];exact hf) (by rw[uh cK];exact zq1 h8));clear hf;go_wp2_with fail
      go_ret2;exact⟨uh cg,zq0 ⟨by rw[uh HE];decide,by rw[uh HE];rfl⟩⟩
     .have hd8:decide ((8:Int)<(st.hid.length:Int))=false:=(by simp;omega);have HE:Hid (lJ s.data.toList=0):=ab (aaU (uh HL) (uh tC) (by rw[uh cK];exact hf) (by rw[uh cK];omega));clear hf;go_wp2_with fail
      go_region_with (go_at_call 70;refine(OG ws (.slice ao ws.length cap) _ (by exact uh XK) (by omega) (by omega)).mono ?_;rintro e w5 ⟨cD,rfl⟩;have m3:=(cD.cell (p:=⟨w.heap.size,3,none⟩) xu).trans c3;have m5:=(cD.cell (p:=⟨w.heap.size,5,none⟩) xu).trans c5;have io:Hid (Below w2.heap.size w2 w5):=ab ⟨cD.os,cD.tape,cD.output,cD.size,cD.block⟩;clear cD)
      all_goals
       go_wp2_with fail
       go_ret2;have cD:=uh io;have hz5:=cD.size;have eK:=(uh cg).size;refine⟨((uh cg).trans (cD.mono eK)).alloc (by omega) _,zq1 ⟨uh HE,w5.heap.size,rfl,.slice a3 st.vars.length k3,.slice ap (fZ ws bY).length kp,.slice a5 st.nodes.length k5,?_,by omega,?_,?_,?_⟩⟩
       .rw[uh HW];exact heap_alloc_new w5 _
       .rw[uh cK];exact(uS (uh KI) cD).alloc _
       .rw[uh HW];exact(uS (uh HRP) cD).alloc _
       .rw[uh cK];exact(uS (uh HR5) cD).alloc _
