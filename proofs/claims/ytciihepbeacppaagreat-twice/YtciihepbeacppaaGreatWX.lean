import Derived.Test.YtciihepbeacppaaGreatM03
set_option maxRecDepth 100000
set_option maxHeartbeats 0
namespace Go.Proofs.YtciihepbeacppaaGreat
open Tryz Go.RowKit List World Below
set_option linter.unusedVariables false
theorem DU(f:Nat):∀(l:List UInt8) (L:List (List UInt8)),eo f l=some L->(L.map List.length).sum<=l.length/\L.length<=l.length:=by
 induction f with
 |zero =>
  intro l L h;match l,h with
  |[],h=>simp[eo]at h;subst h;simp
  |_::_,h=>simp[eo]at h
 |succ f ih =>
  intro l L h;match l,h with
  |[],h=>simp[eo]at h;subst h;simp
  |c::r,h =>
   simp only[eo]at h;split at h
   .have:=ih r L h;simp;omega
   .split at h
    .cases h
    .rename_i hn;obtain⟨L',hL',rfl⟩:=Option.map_eq_some_iff.1 h;have:=ih _ L' hL';have hw:=kO (c::r);generalize hwl:aC (c::r)=n at *;simp only[length_drop,length_cons,map_cons,sum_cons,length_take]at *;omega
theorem Xk(ws:List ByteArray):(jn ws).length<=(ws.map (λx=>x.data.toList.length)).sum+ws.length:=by
 match ws with
 |[]=>simp[jn]
 |x::r =>
  have:∀r:List ByteArray,(r.flatMap (λy=>32::y.data.toList)).length<=(r.map (λx=>x.data.toList.length)).sum+r.length:=by
   intro r;induction r with
   |nil=>simp
   |cons y r ih=>simp only[flatMap_cons,length_append,length_cons,map_cons,sum_cons];omega
  have:=this r;simp only[jn,length_append,map_cons,sum_cons,length_cons];omega
def nY(l:List UInt8):List ByteArray:=((ij l).getD []).map (λx=>⟨x.toArray⟩)
theorem X7{l:List UInt8}{ws:List ByteArray}(h:ij l=some (ws.map (·.data.toList))):nY l=ws:=by
 unfold nY;rw[h];simp only[Option.getD_some,map_map];conv=>rhs;rw[<-map_id ws]
 apply map_congr_left;intro x _;simp
theorem y9{l:List UInt8}{ws:List ByteArray}(h:ij l=some (ws.map (·.data.toList))):ws.length<=l.length/\(jn ws).length<=2*l.length:=by
 have h1:=DU _ _ _ h;have h2:=Xk ws;simp only[map_map,length_map]at h1;have h3:(List.map (List.length ∘ λx:ByteArray=>x.data.toList) ws)=ws.map (λx=>x.data.toList.length):=rfl;rw[h3]at h1;omega
def aJ:PS:=⟨0,false,[],[],[]⟩
def r8(l:List UInt8):PS:=bL (nY l) aJ
def lx(l:List UInt8):Nat :=
 if 240<l.length then 1 else if ij l=none then 2 else if (r8 l).failed=true then 3 else if 4<(r8 l).vars.length\/8<(r8 l).hid.length then 4 else 0
def UV(B:Nat)(w:World)(Q:Nat)(ws:List ByteArray)(s:PS)(al:List cf):Prop :=
 ∃vv pv nv:Value,w.heap[Q]?=some (.cells #[.string ⟨(jn ws).toArray⟩,vv,pv,nv] 105 (0,0))/\B<=Q /\
  w.ownsRow B 5 1 vv s.vars.length (bc s.vars)/\w.ownsRow B 239 5 pv al.length (bI al)/\w.ownsRow B 186 6 nv s.nodes.length (bi s.nodes)
def Q2:Obj:=.cells #[.slice none 0 0,.int .i64 0,.bool false,.slice none 0 0,.slice none 0 0,.slice none 0 0] 133
theorem Q3(w:World)(B:Nat)(hB:B<=w.heap.size):d9 B (.slice none 0 0) (w.alloc Q2) w.heap.size [] aJ [w.heap.size] :=
 ⟨⟨.slice none 0 0,.slice none 0 0,.slice none 0 0,.slice none 0 0,heap_alloc_new w _,⟨hB,rfl⟩,ownsRow_nil _ _ _ _,ownsRow_nil _ _ _ _,ownsRow_nil _ _ _ _,ownsRow_nil _ _ _ _,rfl,by simp⟩,by simp[BM,aJ]⟩
theorem ub{w w':World}{B:Nat}{e:TypeId}{sz n:Nat}{v:Value}{xs:List Value}(h:w.ownsRow B e sz v n xs)(hb:Below w.heap.size w w'):w'.ownsRow B e sz v n xs :=
 ae h (λk hk=>hb.block k (h.lt k hk).2)
theorem NB{l:List UInt8}(h:240<l.length):lx l=1:=by unfold lx;rw[if_pos h]
theorem RU{l:List UInt8}(h:¬ 240<l.length)(h2:ij l=none):lx l=2:=by unfold lx;rw[if_neg h,if_pos h2]
theorem RV{l:List UInt8}(h:¬ 240<l.length)(h2:ij l≠none)(h3:(r8 l).failed=true):lx l=3:=by unfold lx;rw[if_neg h,if_neg h2,if_pos h3]
theorem wW{l:List UInt8}(h:¬ 240<l.length)(h2:ij l≠none)(h3:(r8 l).failed=false)(h4:4<(r8 l).vars.length\/8<(r8 l).hid.length):lx l=4:=by
 unfold lx;rw[if_neg h,if_neg h2,if_neg (by simp[h3]),if_pos h4]
theorem NC{l:List UInt8}(h:¬ 240<l.length)(h2:ij l≠none)(h3:(r8 l).failed=false)(h4:¬ (4<(r8 l).vars.length\/8<(r8 l).hid.length)):lx l=0:=by
 unfold lx;rw[if_neg h,if_neg h2,if_neg (by simp[h3]),if_neg h4]
theorem aq.ofBelow{F:List Nat}{w w':World}(h:Below w.heap.size w w'):aq F w F w' :=
 ⟨h.os,h.tape,h.output,h.size,λk hk _=>h.block k hk,λ_ hk=>zq0 hk⟩
theorem kk.belowP{B:Nat}{WV:Value}{w w':World}{P:Nat}{ws:List ByteArray}{s:PS}{F:List Nat}(h:kk B WV w P ws s F)(hb:Below w.heap.size w w'):kk B WV w' P ws s F :=
 h.of_eq (λk hk=>hb.block k (h.mem k hk).2)
theorem RA{P:Nat}{a a' b c d:List Nat}(h:(P::(a++(b++(c++d)))).Nodup)(ha:a'.Nodup)(hg:∀k∈a',k ∉ P::(a++(b++(c++d)))):(P::(a'++(b++([]++d)))).Nodup:=by
 simp only[nodup_cons,nodup_append,mem_append,mem_cons,nil_append]at *;grind
theorem de.reopen {B:Nat} {WV:Value} {w:World} {P:Nat} {ws:List ByteArray} {s:PS} {F:List Nat} {wv vv hv nv:Value} (h:de B WV w P ws s F wv vv hv nv) {v:Value} {ws':List ByteArray}
  (aO:w.ownsRow B 9 1 v ws'.length (ws'.map Value.string)) (iw:∀k,v.ownBlock=some k->k ∉ F) :
  kk B v (((w.setCell ⟨P,0,none⟩ v).setCell ⟨P,1,none⟩ (.int .i64 0)).setCell ⟨P,4,none⟩ (.slice none 0 0)) P ws' { s with pos:=0,hid:=[] } (P::(v.ownBlock.toList++(vv.ownBlock.toList++([]++nv.ownBlock.toList)))):=by
 have gX:=h.apart.1;obtain⟨hP,hB,h1,h2,h3,h4,hF,hN⟩:=h;have hPF:P∈F:=by rw[hF];simp
 have hk:∀k,k≠P->(((w.setCell ⟨P,0,none⟩ v).setCell ⟨P,1,none⟩ (.int .i64 0)).setCell ⟨P,4,none⟩ (.slice none 0 0)).heap[k]?=w.heap[k]?:=λk hk=>by
  rw[heap_setCell _ _ _ _ hk,heap_setCell _ _ _ _ hk,heap_setCell _ _ _ _ hk]
 refine⟨v,vv,.slice none 0 0,nv,vH (vH (vH hP _) _) _,⟨hB.1,rfl⟩,ae aO (λk e=>hk k (λe2=>iw k e (by rw[e2];exact hPF))),ae h2 (λk e=>hk k (gX k (by simp[e]))),ownsRow_nil _ _ _ _,ae h4 (λk e=>hk k (gX k (by simp[e]))),rfl,?_⟩;rw[hF]at hN iw;exact RA hN (by cases v.ownBlock <;> simp) (λk hk=>iw k (by simpa using hk))
theorem Nc(x:ByteArray)(hx:x.size<=20000){B:Nat}{WV:Value}{w:World}{P:Nat}{ws:List ByteArray}{s:PS}{F:List Nat}(h:d9 B WV w P ws s F)(hv:s.vars.length<=240):
  Calls prog 68 #[.pointer (some ⟨P,0,none⟩),.string x] w λe w'=>∃F',aq F w F' w'/\((240<x.size/\e=.returned (.int .i64 1))\/(¬ 240<x.size/\ij x.data.toList=none/\e=.returned (.int .i64 2)) \/
   (¬ 240<x.size/\∃ws' v,ij x.data.toList=some (ws'.map (·.data.toList))/\e=.returned (.int .i64 0)/\d9 B v w' P ws' { s with pos:=0,hid:=[] } F')):=by
 by_cases kV:240<x.size
 .go_enter func68,ntmps68;go_wp2_with fail
  go_ret;exact⟨F,aq.refl _ _,zq0 ⟨kV,rfl⟩⟩
 .have HL:=ab kV;have hd:decide ((240:Int)<(x.size:Int))=false:=by simp;omega
  have HQ:=ab h;clear kV h;go_enter func68,ntmps68;go_wp2_with fail
  refine(D5 x w hx).mono ?_;rintro e w1 ⟨cn,(⟨AL,rfl⟩|⟨ws',v,tx,aO,rfl⟩)⟩
  .have HN:=ab AL;clear AL;go_wp2_with fail
   go_ret;exact⟨F,aq.ofBelow cn,zq1 (zq0 ⟨uh HL,uh HN,rfl⟩)⟩
  .obtain⟨av,cv,rfl⟩:=bu aO;have HS:=ab tx;have HO:=ab aO;have HM:=ab ((uh HQ).m.belowP cn);have D8:=ab cn;obtain⟨wv,vv,Io,nv,dN⟩:=(uh HM).named;obtain⟨c0,ao,cap,O5⟩:=dN.read0;obtain⟨c1,c2,c3,c4,c5,fz⟩:=dN.readsV;have f0:=fz 0;have f1:=fz 1;have f4:=fz 4;have vb:=ab dN;clear tx aO cn dN fz O5;go_wp2_with fail
   go_ret;have db:=y9 (uh HS);rw[bP]at db;have h1:=uh HL;have hm:=(uh HQ).m.mem;have lu:=(uh D8).size;have hB:B<=w.heap.size:=(by have:=hm P (uh HQ).m.memP;omega);refine⟨P::((Value.slice av ws'.length cv).ownBlock.toList++(vv.ownBlock.toList++([]++nv.ownBlock.toList))),?_,zq1 (zq1 ⟨h1,ws',.slice av ws'.length cv,uh HS,rfl,(uh vb).reopen (pE (uh HO) hB) (λk hk hF=>?_),by simp only[BM];simp;omega⟩)⟩
   .have aS:=((((aq.ofBelow (F:=F) (uh D8)).setCell (p:=⟨P,0,none⟩) (zq0 (uh HQ).m.memP) (.slice av ws'.length cv)).setCell (p:=⟨P,1,none⟩) (zq0 (uh HQ).m.memP) (.int .i64 0)).setCell (p:=⟨P,4,none⟩) (zq0 (uh HQ).m.memP) (.slice none 0 0));refine⟨aS.os,aS.tape,aS.output,aS.size,aS.block,λk hk=>?_⟩;have hFe:=(uh vb).2.2.2.2.2.2.1;simp only[mem_cons,mem_append,Option.mem_toList,not_mem_nil,false_or]at hk;rcases hk with rfl|hk|hk|hk
    .exact zq0 (uh HQ).m.memP
    .exact zq1 ((uh HO).lt k hk).1
    .left;rw[hFe];simp[hk]
    .left;rw[hFe];simp[hk]
   .have:=(hm k hF).2;have:=((uh HO).lt k hk).1;omega
theorem NF(s:ByteArray)(w:World)(hs:s.size<=20000):
  Calls prog 46 #[.string s] w λe w'=>Below w.heap.size w w' /\
   ((lx s.data.toList≠0/\e=.returned (.tuple #[.pointer none,.int .i64 (lx s.data.toList)])) \/
    (lx s.data.toList=0/\∃Q,e=.returned (.tuple #[.pointer (some ⟨Q,0,none⟩),.int .i64 0])/\UV w.heap.size w' Q (nY s.data.toList) (r8 s.data.toList) (gR (nY s.data.toList) aJ))):=by
 have HQ0:=ab (Q3 w w.heap.size (zq4 _));go_enter func46,ntmps46;go_wp2_with fail
 refine(Nc s hs (uh HQ0) (by simp[aJ])).mono ?_;rintro e w1 ⟨F,bN,(⟨kV,rfl⟩|⟨kV,AL,rfl⟩|⟨kV,ws,v,tx,rfl,hq⟩)⟩
 .have HE:Hid (lx s.data.toList=1):=ab (NB (by rw[bP];exact kV));have eU:Hid (Below w.heap.size w w1):=ab (((aq.refl [w.heap.size] w).alloc Q2).trans bN |>.below (zq4 _) (by simp));clear kV bN;go_wp2_with fail
  go_ret2;exact⟨uh eU,zq0 ⟨by rw[uh HE];decide,by rw[uh HE];rfl⟩⟩
 .have HE:Hid (lx s.data.toList=2):=ab (RU (by rw[bP];exact kV) AL);have eU:Hid (Below w.heap.size w w1):=ab (((aq.refl [w.heap.size] w).alloc Q2).trans bN |>.below (zq4 _) (by simp));clear kV AL bN;go_wp2_with fail
  go_ret2;exact⟨uh eU,zq0 ⟨by rw[uh HE];decide,by rw[uh HE];rfl⟩⟩
 .have HL:Hid (¬ 240<s.data.toList.length):=ab (by rw[bP];exact kV)
  .have db:=y9 tx;rw[bP]at db;have HW:Hid (nY s.data.toList=ws):=ab (X7 tx);have vL:Hid (ij s.data.toList≠none):=ab (by rw[tx];simp);have HQ:Hid (d9 w.heap.size v w1 w.heap.size ws aJ F):=ab hq;have cg:=ab (((aq.refl [w.heap.size] w).alloc Q2).trans bN);have lu:=(uh cg).size;have yk:s.size<=240:=(by omega);clear kV tx hq bN;go_wp2_with fail
   refine(Bv (uh HQ) rfl).mono ?_;rintro e w2 ⟨pv,F2,rfl,bX,bO,br,E7⟩;have WL:=bX.f;obtain⟨wv,vv,hv,nv,dN⟩:=bX.m.named;obtain⟨st,aS⟩:∃st,st=bL ws aJ:=⟨_,rfl⟩;have cI:Hid (r8 s.data.toList=st):=ab (by rw[aS,r8,uh HW]);rw[<-aS]at bX dN;clear aS WL;have aR:Below w.heap.size w w2:=((uh cg).trans bO).below (zq4 _) (by simp);obtain⟨_,c2,c3,c4,c5,_⟩:=dN.readsV;obtain⟨c0,ao,cap,rfl⟩:=dN.read0;obtain⟨a3,k3,rfl⟩:=bu dN.2.2.2.1;obtain⟨a4,k4,rfl⟩:=bu dN.2.2.2.2.1;obtain⟨a5,k5,rfl⟩:=bu dN.2.2.2.2.2.1;have UL:=ab (JJ.of_own (dN.2.2.1:w2.ownsRow w.heap.size 9 1 (.slice ao ws.length cap) ws.length (ws.map Value.string)));have IZ:=ab dN.2.2.2.1;have HR5:=ab dN.2.2.2.2.2.1;have HRP:Hid (w2.ownsRow w.heap.size 239 5 pv (gR ws aJ).length (bI (gR ws aJ))):=ab (pE br (by omega));have dS:=ab aR;have wu:w.heap.size<w2.heap.size:=(bX.m.mem _ bX.m.memP).2;obtain⟨ap,kp,rfl⟩:=bu br;clear bX bO br E7 dN aR;cases hf:st.failed with
   |true =>
    rw[hf]at c2;have HE:Hid (lx s.data.toList=3):=ab (RV (uh HL) (uh vL) (by rw[uh cI];exact hf));clear hf;go_wp2_with fail
    go_ret2;exact⟨uh dS,zq0 ⟨by rw[uh HE];decide,by rw[uh HE];rfl⟩⟩
   |false =>
    rw[hf]at c2;by_cases h4:4<st.vars.length
    .have HE:Hid (lx s.data.toList=4):=ab (wW (uh HL) (uh vL) (by rw[uh cI];exact hf) (by rw[uh cI];exact zq0 h4));clear hf;go_wp2_with fail
     go_ret2;exact⟨uh dS,zq0 ⟨by rw[uh HE];decide,by rw[uh HE];rfl⟩⟩
    .have OZ:decide ((4:Int)<(st.vars.length:Int))=false:=(by simp;omega);by_cases h8:8<st.hid.length
     .have HE:Hid (lx s.data.toList=4):=ab (wW (uh HL) (uh vL) (by rw[uh cI];exact hf) (by rw[uh cI];exact zq1 h8));clear hf;go_wp2_with fail
      go_ret2;exact⟨uh dS,zq0 ⟨by rw[uh HE];decide,by rw[uh HE];rfl⟩⟩
     .have hd8:decide ((8:Int)<(st.hid.length:Int))=false:=(by simp;omega);have HE:Hid (lx s.data.toList=0):=ab (NC (uh HL) (uh vL) (by rw[uh cI];exact hf) (by rw[uh cI];omega));clear hf;go_wp2_with fail
      go_region_with (go_at_call 70;refine(MA ws (.slice ao ws.length cap) _ (by exact uh UL) (by omega) (by omega)).mono ?_;rintro e w5 ⟨dL,rfl⟩;have m3:=(dL.cell (p:=⟨w.heap.size,3,none⟩) wu).trans c3;have m5:=(dL.cell (p:=⟨w.heap.size,5,none⟩) wu).trans c5;have j9:Hid (Below w2.heap.size w2 w5):=ab ⟨dL.os,dL.tape,dL.output,dL.size,dL.block⟩;clear dL)
      all_goals
       go_wp2_with fail
       go_ret2;have dL:=uh j9;have hz5:=dL.size;have fJ:=(uh dS).size;refine⟨((uh dS).trans (dL.mono fJ)).alloc (by omega) _,zq1 ⟨uh HE,w5.heap.size,rfl,.slice a3 st.vars.length k3,.slice ap (gR ws aJ).length kp,.slice a5 st.nodes.length k5,?_,by omega,?_,?_,?_⟩⟩
       .rw[uh HW];exact heap_alloc_new w5 _
       .rw[uh cI];exact(ub (uh IZ) dL).alloc _
       .rw[uh HW];exact(ub (uh HRP) dL).alloc _
       .rw[uh cI];exact(ub (uh HR5) dL).alloc _
