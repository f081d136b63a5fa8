import Derived.Test.YtciihepbeacppaaGreatM03
set_option maxRecDepth 100000
set_option maxHeartbeats 0
namespace Go.Proofs.YtciihepbeacppaaGreat
open Tryz Go.RowKit List World Below
set_option linter.unusedVariables false
theorem Gz(f:Nat):∀(l:List UInt8) (L:List (List UInt8)),fq f l=some L->(L.map List.length).sum<=l.length/\L.length<=l.length:=by
 induction f with
 |zero =>
  intro l L h;match l,h with
  |[],h=>simp[fq]at h;subst h;simp
  |_::_,h=>simp[fq]at h
 |succ f ih =>
  intro l L h;match l,h with
  |[],h=>simp[fq]at h;subst h;simp
  |c::r,h =>
   simp only[fq]at h;split at h
   .have:=ih r L h;simp;omega
   .split at h
    .cases h
    .rename_i hn;obtain⟨L',hL',rfl⟩:=Option.map_eq_some_iff.1 h;have:=ih _ L' hL';have hw:=iq (c::r);generalize hwl:az (c::r)=n at *;simp only[length_drop,length_cons,map_cons,sum_cons,length_take]at *;omega
theorem aaR(ws:List ByteArray):(jn ws).length<=(ws.map (λx=>x.data.toList.length)).sum+ws.length:=by
 match ws with
 |[]=>simp[jn]
 |x::r =>
  have:∀r:List ByteArray,(r.flatMap (λy=>32::y.data.toList)).length<=(r.map (λx=>x.data.toList.length)).sum+r.length:=by
   intro r;induction r with
   |nil=>simp
   |cons y r ih=>simp only[flatMap_cons,length_append,length_cons,map_cons,sum_cons];omega
  have:=this r;simp only[jn,length_append,map_cons,sum_cons,length_cons];omega
def b9(l:List UInt8):List ByteArray:=((gp l).getD []).map (λx=>⟨x.toArray⟩)
theorem abI{l:List UInt8}{ws:List ByteArray}(h:gp l=some (ws.map (·.data.toList))):b9 l=ws:=by
 unfold b9;rw[h];simp only[Option.getD_some,map_map];conv=>rhs;rw[<-map_id ws]
 apply map_congr_left;intro x _;simp
theorem Bb{l:List UInt8}{ws:List ByteArray}(h:gp l=some (ws.map (·.data.toList))):ws.length<=l.length/\(jn ws).length<=2*l.length:=by
 have h1:=Gz _ _ _ h;have h2:=aaR ws;simp only[map_map,length_map]at h1;have h3:(List.map (List.length ∘ λx:ByteArray=>x.data.toList) ws)=ws.map (λx=>x.data.toList.length):=rfl;rw[h3]at h1;omega
def aX:PS:=⟨0,false,[],[],[]⟩
def bO(l:List UInt8):PS:=fn (b9 l) aX
def lA(l:List UInt8):Nat :=
 if 240<l.length then 1 else if gp l=none then 2 else if (bO l).failed=true then 3 else if 4<(bO l).vars.length\/8<(bO l).hid.length then 4 else 0
def Yu(B:Nat)(w:World)(Q:Nat)(ws:List ByteArray)(s:PS)(al:List cn):Prop :=
 ∃vv pv nv:Value,w.heap[Q]?=some (.cells #[.string ⟨(jn ws).toArray⟩,vv,pv,nv] 105 (0,0))/\B<=Q /\
  w.ownsRow B 5 1 vv s.vars.length (bc s.vars)/\w.ownsRow B 239 5 pv al.length (bT al)/\w.ownsRow B 186 6 nv s.nodes.length (bq s.nodes)
def Ut:Obj:=.cells #[.slice none 0 0,.int .i64 0,.bool false,.slice none 0 0,.slice none 0 0,.slice none 0 0] 133
theorem Uu(w:World)(B:Nat)(hB:B<=w.heap.size):eO B (.slice none 0 0) (w.alloc Ut) w.heap.size [] aX [w.heap.size] :=
 ⟨⟨.slice none 0 0,.slice none 0 0,.slice none 0 0,.slice none 0 0,heap_alloc_new w _,⟨hB,rfl⟩,ownsRow_nil _ _ _ _,ownsRow_nil _ _ _ _,ownsRow_nil _ _ _ _,ownsRow_nil _ _ _ _,rfl,by simp⟩,by simp[DW,aX]⟩
theorem wq{w w':World}{B:Nat}{e:TypeId}{sz n:Nat}{v:Value}{xs:List Value}(h:w.ownsRow B e sz v n xs)(hb:Below w.heap.size w w'):w'.ownsRow B e sz v n xs :=
 ae h (λk hk=>hb.block k (h.lt k hk).2)
theorem QB{l:List UInt8}(h:240<l.length):lA l=1:=by unfold lA;rw[if_pos h]
theorem Vo{l:List UInt8}(h:¬ 240<l.length)(h2:gp l=none):lA l=2:=by unfold lA;rw[if_neg h,if_pos h2]
theorem Vp{l:List UInt8}(h:¬ 240<l.length)(h2:gp l≠none)(h3:(bO l).failed=true):lA l=3:=by unfold lA;rw[if_neg h,if_neg h2,if_pos h3]
theorem zb{l:List UInt8}(h:¬ 240<l.length)(h2:gp l≠none)(h3:(bO l).failed=false)(h4:4<(bO l).vars.length\/8<(bO l).hid.length):lA l=4:=by
 unfold lA;rw[if_neg h,if_neg h2,if_neg (by simp[h3]),if_pos h4]
theorem QC{l:List UInt8}(h:¬ 240<l.length)(h2:gp l≠none)(h3:(bO l).failed=false)(h4:¬ (4<(bO l).vars.length\/8<(bO l).hid.length)):lA l=0:=by
 unfold lA;rw[if_neg h,if_neg h2,if_neg (by simp[h3]),if_neg h4]
theorem au.ofBelow{F:List Nat}{w w':World}(h:Below w.heap.size w w'):au F w F w' :=
 ⟨h.os,h.tape,h.output,h.size,λk hk _=>h.block k hk,λ_ hk=>zq0 hk⟩
theorem lM.belowP{B:Nat}{WV:Value}{w w':World}{P:Nat}{ws:List ByteArray}{s:PS}{F:List Nat}(h:lM B WV w P ws s F)(hb:Below w.heap.size w w'):lM B WV w' P ws s F :=
 h.of_eq (λk hk=>hb.block k (h.mem k hk).2)
theorem U5{P:Nat}{a a' b c d:List Nat}(h:(P::(a++(b++(c++d)))).Nodup)(ha:a'.Nodup)(hg:∀k∈a',k ∉ P::(a++(b++(c++d)))):(P::(a'++(b++([]++d)))).Nodup:=by
 simp only[nodup_cons,nodup_append,mem_append,mem_cons,nil_append]at *;grind
theorem dB.reopen {B:Nat} {WV:Value} {w:World} {P:Nat} {ws:List ByteArray} {s:PS} {F:List Nat} {wv vv hv nv:Value} (h:dB B WV w P ws s F wv vv hv nv) {v:Value} {ws':List ByteArray}
  (aP:w.ownsRow B 9 1 v ws'.length (ws'.map Value.string)) (iC:∀k,v.ownBlock=some k->k ∉ F) :
  lM B v (((w.setCell ⟨P,0,none⟩ v).setCell ⟨P,1,none⟩ (.int .i64 0)).setCell ⟨P,4,none⟩ (.slice none 0 0)) P ws' { s with pos:=0,hid:=[] } (P::(v.ownBlock.toList++(vv.ownBlock.toList++([]++nv.ownBlock.toList)))):=by
 have eU:=h.apart.1;obtain⟨hP,hB,h1,h2,h3,h4,hF,hN⟩:=h;have hPF:P∈F:=by rw[hF];simp
 have hk:∀k,k≠P->(((w.setCell ⟨P,0,none⟩ v).setCell ⟨P,1,none⟩ (.int .i64 0)).setCell ⟨P,4,none⟩ (.slice none 0 0)).heap[k]?=w.heap[k]?:=λk hk=>by
  rw[heap_setCell _ _ _ _ hk,heap_setCell _ _ _ _ hk,heap_setCell _ _ _ _ hk]
 refine⟨v,vv,.slice none 0 0,nv,ye (ye (ye hP _) _) _,⟨hB.1,rfl⟩,ae aP (λk e=>hk k (λe2=>iC k e (by rw[e2];exact hPF))),ae h2 (λk e=>hk k (eU k (by simp[e]))),ownsRow_nil _ _ _ _,ae h4 (λk e=>hk k (eU k (by simp[e]))),rfl,?_⟩;rw[hF]at hN iC;exact U5 hN (by cases v.ownBlock <;> simp) (λk hk=>iC k (by simpa using hk))
theorem Qf(x:ByteArray)(hx:x.size<=20000){B:Nat}{WV:Value}{w:World}{P:Nat}{ws:List ByteArray}{s:PS}{F:List Nat}(h:eO B WV w P ws s F)(hv:s.vars.length<=240):
  Calls prog 68 #[.pointer (some ⟨P,0,none⟩),.string x] w λe w'=>∃F',au F w F' w'/\((240<x.size/\e=.returned (.int .i64 1))\/(¬ 240<x.size/\gp x.data.toList=none/\e=.returned (.int .i64 2)) \/
   (¬ 240<x.size/\∃ws' v,gp x.data.toList=some (ws'.map (·.data.toList))/\e=.returned (.int .i64 0)/\eO B v w' P ws' { s with pos:=0,hid:=[] } F')):=by
 by_cases mq:240<x.size
 .go_enter func68,ntmps68;go_wp2_with fail
  go_ret;exact⟨F,au.refl _ _,zq0 ⟨mq,rfl⟩⟩
 .have HL:=ab mq;have hd:decide ((240:Int)<(x.size:Int))=false:=by simp;omega
  have HQ:=ab h;clear mq h;go_enter func68,ntmps68;go_wp2_with fail
  refine(GG x w hx).mono ?_;rintro e w1 ⟨cH,(⟨CZ,rfl⟩|⟨ws',v,vE,aP,rfl⟩)⟩
  .have HN:=ab CZ;clear CZ;go_wp2_with fail
   go_ret;exact⟨F,au.ofBelow cH,zq1 (zq0 ⟨uh HL,uh HN,rfl⟩)⟩
  .obtain⟨av,cv,rfl⟩:=bJ aP;have HS:=ab vE;have HO:=ab aP;have HM:=ab ((uh HQ).m.belowP cH);have GJ:=ab cH;obtain⟨wv,vv,hv',nv,ei⟩:=(uh HM).named;obtain⟨c0,ao,cap,RU⟩:=ei.read0;obtain⟨c1,c2,c3,c4,c5,fz⟩:=ei.readsV;have f0:=fz 0;have f1:=fz 1;have f4:=fz 4;have xJ:=ab ei;clear vE aP cH ei fz RU;go_wp2_with fail
   go_ret;have dL:=Bb (uh HS);rw[bu]at dL;have h1:=uh HL;have hm:=(uh HQ).m.mem;have nV:=(uh GJ).size;have hB:B<=w.heap.size:=(by have:=hm P (uh HQ).m.memP;omega);refine⟨P::((Value.slice av ws'.length cv).ownBlock.toList++(vv.ownBlock.toList++([]++nv.ownBlock.toList))),?_,zq1 (zq1 ⟨h1,ws',.slice av ws'.length cv,uh HS,rfl,(uh xJ).reopen (rb (uh HO) hB) (λk hk hF=>?_),by simp only[DW];simp;omega⟩)⟩
   .have aV:=((((au.ofBelow (F:=F) (uh GJ)).setCell (p:=⟨P,0,none⟩) (zq0 (uh HQ).m.memP) (.slice av ws'.length cv)).setCell (p:=⟨P,1,none⟩) (zq0 (uh HQ).m.memP) (.int .i64 0)).setCell (p:=⟨P,4,none⟩) (zq0 (uh HQ).m.memP) (.slice none 0 0));refine⟨aV.os,aV.tape,aV.output,aV.size,aV.block,λk hk=>?_⟩;have hFe:=(uh xJ).2.2.2.2.2.2.1;simp only[mem_cons,mem_append,Option.mem_toList,not_mem_nil,false_or]at hk;rcases hk with rfl|hk|hk|hk
    .exact zq0 (uh HQ).m.memP
    .exact zq1 ((uh HO).lt k hk).1
    .left;rw[hFe];simp[hk]
    .left;rw[hFe];simp[hk]
   .have:=(hm k hF).2;have:=((uh HO).lt k hk).1;omega
theorem QE(s:ByteArray)(w:World)(hs:s.size<=20000):
  Calls prog 46 #[.string s] w λe w'=>Below w.heap.size w w' /\
   ((lA s.data.toList≠0/\e=.returned (.tuple #[.pointer none,.int .i64 (lA s.data.toList)])) \/
    (lA s.data.toList=0/\∃Q,e=.returned (.tuple #[.pointer (some ⟨Q,0,none⟩),.int .i64 0])/\Yu w.heap.size w' Q (b9 s.data.toList) (bO s.data.toList) (eW (b9 s.data.toList) aX))):=by
 have HQ0:=ab (Uu w w.heap.size (zq4 _));go_enter func46,ntmps46;go_wp2_with fail
 refine(Qf s hs (uh HQ0) (by simp[aX])).mono ?_;rintro e w1 ⟨F,bX,(⟨mq,rfl⟩|⟨mq,CZ,rfl⟩|⟨mq,ws,v,vE,rfl,hq⟩)⟩
 .have HE:Hid (lA s.data.toList=1):=ab (QB (by rw[bu];exact mq));have fU:Hid (Below w.heap.size w w1):=ab (((au.refl [w.heap.size] w).alloc Ut).trans bX |>.below (zq4 _) (by simp));clear mq bX;go_wp2_with fail
  go_ret2;exact⟨uh fU,zq0 ⟨by rw[uh HE];decide,by rw[uh HE];rfl⟩⟩
 .have HE:Hid (lA s.data.toList=2):=ab (Vo (by rw[bu];exact mq) CZ);have fU:Hid (Below w.heap.size w w1):=ab (((au.refl [w.heap.size] w).alloc Ut).trans bX |>.below (zq4 _) (by simp));clear mq CZ bX;go_wp2_with fail
  go_ret2;exact⟨uh fU,zq0 ⟨by rw[uh HE];decide,by rw[uh HE];rfl⟩⟩
 .have HL:Hid (¬ 240<s.data.toList.length):=ab (by rw[bu];exact mq)
  .have dL:=Bb vE;rw[bu]at dL;have HW:Hid (b9 s.data.toList=ws):=ab (abI vE);have yj:Hid (gp s.data.toList≠none):=ab (by rw[vE];simp);have HQ:Hid (eO w.heap.size v w1 w.heap.size ws aX F):=ab hq;have cD:=ab (((au.refl [w.heap.size] w).alloc Ut).trans bX);have nV:=(uh cD).size;have pi:s.size<=240:=(by omega);clear mq vE hq bX;go_wp2_with fail
   refine(DA (uh HQ) rfl).mono ?_;rintro e w2 ⟨pv,F2,rfl,cg,bS,bC,Im⟩;have Xs:=cg.f;obtain⟨wv,vv,hv,nv,ei⟩:=cg.m.named;obtain⟨st,aV⟩:∃st,st=fn ws aX:=⟨_,rfl⟩;have db:Hid (bO s.data.toList=st):=ab (by rw[aV,bO,uh HW]);rw[<-aV]at cg ei;clear aV Xs;have aU:Below w.heap.size w w2:=((uh cD).trans bS).below (zq4 _) (by simp);obtain⟨_,c2,c3,c4,c5,_⟩:=ei.readsV;obtain⟨c0,ao,cap,rfl⟩:=ei.read0;obtain⟨a3,k3,rfl⟩:=bJ ei.2.2.2.1;obtain⟨a4,k4,rfl⟩:=bJ ei.2.2.2.2.1;obtain⟨a5,k5,rfl⟩:=bJ ei.2.2.2.2.2.1;have Yk:=ab (MJ.of_own (ei.2.2.1:w2.ownsRow w.heap.size 9 1 (.slice ao ws.length cap) ws.length (ws.map Value.string)));have LN:=ab ei.2.2.2.1;have HR5:=ab ei.2.2.2.2.2.1;have HRP:Hid (w2.ownsRow w.heap.size 239 5 pv (eW ws aX).length (bT (eW ws aX))):=ab (rb bC (by omega));have eu:=ab aU;have yL:w.heap.size<w2.heap.size:=(cg.m.mem _ cg.m.memP).2;obtain⟨ap,kp,rfl⟩:=bJ bC;clear cg bS bC Im ei aU;cases hf:st.failed with
   |true =>
    rw[hf]at c2;have HE:Hid (lA s.data.toList=3):=ab (Vp (uh HL) (uh yj) (by rw[uh db];exact hf));clear hf;go_wp2_with fail
    go_ret2;exact⟨uh eu,zq0 ⟨by rw[uh HE];decide,by rw[uh HE];rfl⟩⟩
   |false =>
    rw[hf]at c2;by_cases h4:4<st.vars.length
    .have HE:Hid (lA s.data.toList=4):=ab (zb (uh HL) (uh yj) (by rw[uh db];exact hf) (by rw[uh db];exact zq0 h4));clear hf;go_wp2_with fail
     go_ret2;exact⟨uh eu,zq0 ⟨by rw[uh HE];decide,by rw[uh HE];rfl⟩⟩
    .have RO:decide ((4:Int)<(st.vars.length:Int))=false:=(by simp;omega);by_cases h8:8<st.hid.length
     .have HE:Hid (lA s.data.toList=4):=ab (zb (uh HL) (uh yj) (by rw[uh db];exact hf) (by rw[uh db];exact zq1 h8));clear hf;go_wp2_with fail
      go_ret2;exact⟨uh eu,zq0 ⟨by rw[uh HE];decide,by rw[uh HE];rfl⟩⟩
     .have hd8:decide ((8:Int)<(st.hid.length:Int))=false:=(by simp;omega);have HE:Hid (lA s.data.toList=0):=ab (QC (uh HL) (uh yj) (by rw[uh db];exact hf) (by rw[uh db];omega));clear hf;go_wp2_with fail
      go_region_with (go_at_call 70;refine(Pz ws (.slice ao ws.length cap) _ (by exact uh Yk) (by omega) (by omega)).mono ?_;rintro e w5 ⟨dT,rfl⟩;have m3:=(dT.cell (p:=⟨w.heap.size,3,none⟩) yL).trans c3;have m5:=(dT.cell (p:=⟨w.heap.size,5,none⟩) yL).trans c5;have lH:Hid (Below w2.heap.size w2 w5):=ab ⟨dT.os,dT.tape,dT.output,dT.size,dT.block⟩;clear dT)
      all_goals
       go_wp2_with fail
       go_ret2;have dT:=uh lH;have hz5:=dT.size;have f9:=(uh eu).size;refine⟨((uh eu).trans (dT.mono f9)).alloc (by omega) _,zq1 ⟨uh HE,w5.heap.size,rfl,.slice a3 st.vars.length k3,.slice ap (eW ws aX).length kp,.slice a5 st.nodes.length k5,?_,by omega,?_,?_,?_⟩⟩
       .rw[uh HW];exact heap_alloc_new w5 _
       .rw[uh db];exact(wq (uh LN) dT).alloc _
       .rw[uh HW];exact(wq (uh HRP) dT).alloc _
       .rw[uh db];exact(wq (uh HR5) dT).alloc _
