import Derived.Test.YtciihepbeacppaaGreatM00
import Derived.Deep.LoopGhost
set_option maxRecDepth 100000
set_option maxHeartbeats 0
namespace Go.Proofs.YtciihepbeacppaaGreat
open Tryz Go.RowKit List World Below
set_option linter.unusedVariables false
def cU(B:Nat)(WV:Value)(w:World)(P:Nat)(ws:List ByteArray)(s:PS)(F:List Nat)(wv vv hv nv:Value):Prop :=
  w.heap[P]?=some (.cells #[wv,.int .i64 s.pos,.bool s.failed,vv,hv,nv] 133 (0,0))/\(B<=P/\wv=WV) /\
  w.ownsRow B 9 1 wv ws.length (ws.map Value.string) /\
  w.ownsRow B 5 1 vv s.vars.length (bc s.vars) /\
  w.ownsRow B 5 1 hv s.hid.length (bc s.hid) /\
  w.ownsRow B 186 6 nv s.nodes.length (a7 s.nodes) /\
  F=P::(wv.ownBlock.toList++(vv.ownBlock.toList++(hv.ownBlock.toList++nv.ownBlock.toList)))/\F.Nodup
section
variable {B:Nat} {WV:Value} {w:World} {P:Nat} {ws:List ByteArray} {s:PS} {F:List Nat} {wv vv hv nv:Value}
theorem jQ.named(h:jQ B WV w P ws s F):∃wv vv hv nv,cU B WV w P ws s F wv vv hv nv:=h
theorem cU.is(h:cU B WV w P ws s F wv vv hv nv):jQ B WV w P ws s F:=⟨wv,vv,hv,nv,h⟩
theorem cU.of_eq{w':World}(h:cU B WV w P ws s F wv vv hv nv)(he:∀k∈F,w'.heap[k]?=w.heap[k]?):cU B WV w' P ws s F wv vv hv nv:=by
 obtain⟨hP,hB,h1,h2,h3,h4,hF,hN⟩:=h;have hm:∀k,k=P\/wv.ownBlock=some k\/vv.ownBlock=some k\/hv.ownBlock=some k\/nv.ownBlock=some k->k∈F:=by
  intro k hk;rw[hF];simpa using hk
 exact⟨by rw[he P (hm P (by simp))];exact hP,hB,ae h1 (λk hk=>he k (hm k (by simp[hk]))),ae h2 (λk hk=>he k (hm k (by simp[hk]))),
  ae h3 (λk hk=>he k (hm k (by simp[hk]))),ae h4 (λk hk=>he k (hm k (by simp[hk]))),hF,hN⟩
theorem cU.drewN(h:cU B WV w P ws s F wv vv hv nv)(n:Nat):cU B WV (w.drewN n) P ws s F wv vv hv nv:=h.of_eq (λ_ _=>rfl)
theorem cU.alloc(h:cU B WV w P ws s F wv vv hv nv)(o:Obj):cU B WV (w.alloc o) P ws s F wv vv hv nv:=h.of_eq (λk hk=>heap_alloc _ _ _ (h.is.mem k hk).2)
theorem cU.setPos(h:cU B WV w P ws s F wv vv hv nv)(n:Nat):cU B WV (w.setCell ⟨P,1,none⟩ (.int .i64 n)) P ws { s with pos:=n } F wv vv hv nv:=by
 obtain⟨hP,hB,h1,h2,h3,h4,hF,hN⟩:=h;have aM:∀k,wv.ownBlock=some k\/vv.ownBlock=some k\/hv.ownBlock=some k\/nv.ownBlock=some k->k≠P:=by
  rw[hF]at hN;rintro k hk rfl;exact(nodup_cons.1 hN).1 (by simpa using hk)
 have hk:∀k,wv.ownBlock=some k\/vv.ownBlock=some k\/hv.ownBlock=some k\/nv.ownBlock=some k->(w.setCell ⟨P,1,none⟩ (.int .i64 n)).heap[k]?=w.heap[k]? :=
  λk hk=>heap_setCell _ _ _ _ (aM k hk)
 exact⟨vT hP _,hB,ae h1 (λk h=>hk k (by simp[h])),ae h2 (λk h=>hk k (by simp[h])),ae h3 (λk h=>hk k (by simp[h])),ae h4 (λk h=>hk k (by simp[h])),hF,hN⟩
theorem cU.apart(h:cU B WV w P ws s F wv vv hv nv):(∀k,wv.ownBlock=some k\/vv.ownBlock=some k\/hv.ownBlock=some k\/nv.ownBlock=some k->k≠P) /\
  (∀k,vv.ownBlock=some k->wv.ownBlock≠some k/\hv.ownBlock≠some k/\nv.ownBlock≠some k)/\(∀k,hv.ownBlock=some k->wv.ownBlock≠some k/\vv.ownBlock≠some k/\nv.ownBlock≠some k) /\
  (∀k,nv.ownBlock=some k->wv.ownBlock≠some k/\vv.ownBlock≠some k/\hv.ownBlock≠some k):=by
 obtain⟨hP,hB,h1,h2,h3,h4,hF,hN⟩:=h;rw[hF]at hN;cases a:wv.ownBlock <;> cases b:vv.ownBlock <;> cases c:hv.ownBlock <;> cases d:nv.ownBlock <;> simp[a,b,c,d]at hN ⊢ <;> grind
theorem TC{P g:Nat}{a b c d:List Nat}(h:(P::(a++(b++(c++d)))).Nodup)(hg:g ∉ P::(a++(c++d))):(P::(a++([g]++(c++d)))).Nodup:=by
 simp only[nodup_cons,nodup_append,mem_append,mem_cons]at *;grind
theorem Zx{P g:Nat}{a b c d:List Nat}(h:(P::(a++(b++(c++d)))).Nodup)(hg:g ∉ P::(a++(b++d))):(P::(a++(b++([g]++d)))).Nodup:=by
 simp only[nodup_cons,nodup_append,mem_append,mem_cons]at *;grind
theorem Oe{P g:Nat}{a b c d:List Nat}(h:(P::(a++(b++(c++d)))).Nodup)(hg:g ∉ P::(a++(b++c))):(P::(a++(b++(c++[g])))).Nodup:=by
 simp only[nodup_cons,nodup_append,mem_append,mem_cons]at *;grind
theorem cU.pushVars {w3:World} {o:Obj} {g cap:Nat} (x:UInt8) (h:cU B WV w P ws s F wv vv hv nv) (hg:(w.alloc o).grownBy w3 vv.ownBlock)
  (aN:w3.ownsRow B 5 1 (.slice (some ⟨g,0,none⟩) (s.vars.length+1) cap) (s.vars.length+1) (bc s.vars++[.int .u8 (x.toNat:Int)]))
  (hb:some g=vv.ownBlock\/g=(w.alloc o).heap.size) :
  ∃F',jQ B WV (w3.setCell ⟨P,3,none⟩ (.slice (some ⟨g,0,none⟩) (s.vars.length+1) cap)) P ws { s with vars:=s.vars++[x] } F'/\am F w F' (w3.setCell ⟨P,3,none⟩ (.slice (some ⟨g,0,none⟩) (s.vars.length+1) cap)):=by
 have fQ:=h.apart;have iB:=h.is.mem;have jO:(w.alloc o).heap.size=w.heap.size+1:=by simp
 obtain⟨hP,hB,h1,h2,h3,h4,hF,hN⟩:=h;have wN:P<w.heap.size:=(iB P (by rw[hF];simp)).2;have hgP:g≠P:=by
  rcases hb with hb|hb
  .exact fQ.1 g (by simp[<-hb])
  .omega
 have fG:∀k,k<w.heap.size->vv.ownBlock≠some k->k≠P->(w3.setCell ⟨P,3,none⟩ (.slice (some ⟨g,0,none⟩) (s.vars.length+1) cap)).heap[k]?=w.heap[k]?:=by
  intro k hk aM hkP;rw[heap_setCell _ _ _ _ hkP,hg.block k (by omega) (λe=>aM e.symm),heap_alloc _ _ _ hk]
 have MH:w3.heap[P]?=some (.cells #[wv,.int .i64 s.pos,.bool s.failed,vv,hv,nv] 133 (0,0)):=by
  rw[hg.block P (by omega) (λe=>(fQ.1 P (by simp[<-e])) rfl),heap_alloc _ _ _ wN];exact hP
 have ar:∀k,wv.ownBlock=some k\/vv.ownBlock=some k\/hv.ownBlock=some k\/nv.ownBlock=some k->k<w.heap.size:=λk hk=>(iB k (by rw[hF];simpa using zq1 hk)).2;have hgF:g∈F\/g=w.heap.size+1:=by
  rcases hb with hb|hb
  .left;rw[hF];simp[<-hb]
  .right;omega
 refine⟨P::(wv.ownBlock.toList++([g]++(hv.ownBlock.toList++nv.ownBlock.toList))),⟨wv,.slice (some ⟨g,0,none⟩) (s.vars.length+1) cap,hv,nv,vT MH _,hB,?_,?_,?_,?_,rfl,?_⟩,⟨hg.os,hg.tape,hg.output,?_,?_,?_⟩⟩
 .exact ae h1 (λk hk=>fG k (ar k (by simp[hk])) (λe=>by have:=fQ;grind) (λe=>(fQ.1 k (by simp[hk])) e))
 .exact ae (gu aN (by simp) (by simp[bc])) (λk hk=>heap_setCell _ _ _ _ (by simp[Value.ownBlock]at hk;subst hk;exact hgP))
 .exact ae h3 (λk hk=>fG k (ar k (by simp[hk])) (λe=>by have:=fQ;grind) (λe=>(fQ.1 k (by simp[hk])) e))
 .exact ae h4 (λk hk=>fG k (ar k (by simp[hk])) (λe=>by have:=fQ;grind) (λe=>(fQ.1 k (by simp[hk])) e))
 .rw[hF]at hN;rcases hb with hb|hb
  .have e:vv.ownBlock.toList=[g]:=(by rw[<-hb];rfl);rw[e]at hN;exact hN
  .refine TC hN ?_;intro hm;have:=ar g (by simpa using Or.resolve_left (mem_cons.1 hm) hgP |> λz=>(by grind));omega
 .have:=hg.size;simp[World.setCell];omega
 .intro k hk hkF;exact fG k hk (λe=>hkF (by rw[hF];simp[e])) (λe=>hkF (by rw[hF,e];simp))
 .intro k hk;rw[hF];rw[hF]at hgF;grind
theorem cU.pushHid {w3:World} {o:Obj} {g cap:Nat} (x:UInt8) (h:cU B WV w P ws s F wv vv hv nv) (hg:(w.alloc o).grownBy w3 hv.ownBlock)
  (aN:w3.ownsRow B 5 1 (.slice (some ⟨g,0,none⟩) (s.hid.length+1) cap) (s.hid.length+1) (bc s.hid++[.int .u8 (x.toNat:Int)]))
  (hb:some g=hv.ownBlock\/g=(w.alloc o).heap.size) :
  ∃F',jQ B WV (w3.setCell ⟨P,4,none⟩ (.slice (some ⟨g,0,none⟩) (s.hid.length+1) cap)) P ws { s with hid:=s.hid++[x] } F'/\am F w F' (w3.setCell ⟨P,4,none⟩ (.slice (some ⟨g,0,none⟩) (s.hid.length+1) cap)):=by
 have fQ:=h.apart;have iB:=h.is.mem;have jO:(w.alloc o).heap.size=w.heap.size+1:=by simp
 obtain⟨hP,hB,h1,h2,h3,h4,hF,hN⟩:=h;have wN:P<w.heap.size:=(iB P (by rw[hF];simp)).2;have hgP:g≠P:=by
  rcases hb with hb|hb
  .exact fQ.1 g (by simp[<-hb])
  .omega
 have fG:∀k,k<w.heap.size->hv.ownBlock≠some k->k≠P->(w3.setCell ⟨P,4,none⟩ (.slice (some ⟨g,0,none⟩) (s.hid.length+1) cap)).heap[k]?=w.heap[k]?:=by
  intro k hk aM hkP;rw[heap_setCell _ _ _ _ hkP,hg.block k (by omega) (λe=>aM e.symm),heap_alloc _ _ _ hk]
 have MH:w3.heap[P]?=some (.cells #[wv,.int .i64 s.pos,.bool s.failed,vv,hv,nv] 133 (0,0)):=by
  rw[hg.block P (by omega) (λe=>(fQ.1 P (by simp[<-e])) rfl),heap_alloc _ _ _ wN];exact hP
 have ar:∀k,wv.ownBlock=some k\/vv.ownBlock=some k\/hv.ownBlock=some k\/nv.ownBlock=some k->k<w.heap.size:=λk hk=>(iB k (by rw[hF];simpa using zq1 hk)).2;have hgF:g∈F\/g=w.heap.size+1:=by
  rcases hb with hb|hb
  .left;rw[hF];simp[<-hb]
  .right;omega
 refine⟨P::(wv.ownBlock.toList++(vv.ownBlock.toList++([g]++nv.ownBlock.toList))),⟨wv,vv,.slice (some ⟨g,0,none⟩) (s.hid.length+1) cap,nv,vT MH _,hB,?_,?_,?_,?_,rfl,?_⟩,⟨hg.os,hg.tape,hg.output,?_,?_,?_⟩⟩
 .exact ae h1 (λk hk=>fG k (ar k (by simp[hk])) (λe=>by have:=fQ;grind) (λe=>(fQ.1 k (by simp[hk])) e))
 .exact ae h2 (λk hk=>fG k (ar k (by simp[hk])) (λe=>by have:=fQ;grind) (λe=>(fQ.1 k (by simp[hk])) e))
 .exact ae (gu aN (by simp) (by simp[bc])) (λk hk=>heap_setCell _ _ _ _ (by simp[Value.ownBlock]at hk;subst hk;exact hgP))
 .exact ae h4 (λk hk=>fG k (ar k (by simp[hk])) (λe=>by have:=fQ;grind) (λe=>(fQ.1 k (by simp[hk])) e))
 .rw[hF]at hN;rcases hb with hb|hb
  .have e:hv.ownBlock.toList=[g]:=(by rw[<-hb];rfl);rw[e]at hN;exact hN
  .refine Zx hN ?_;intro hm;have:=ar g (by simpa using Or.resolve_left (mem_cons.1 hm) hgP |> λz=>(by grind));omega
 .have:=hg.size;simp[World.setCell];omega
 .intro k hk hkF;exact fG k hk (λe=>hkF (by rw[hF];simp[e])) (λe=>hkF (by rw[hF,e];simp))
 .intro k hk;rw[hF];rw[hF]at hgF;grind
theorem cU.pushNodes {w3:World} {o:Obj} {g cap:Nat} (x:Nd) (h:cU B WV w P ws s F wv vv hv nv) (hg:(w.alloc o).grownBy w3 nv.ownBlock)
  (aN:w3.ownsRow B 186 6 (.slice (some ⟨g,0,none⟩) (s.nodes.length+1) cap) (s.nodes.length+1) (a7 s.nodes++x.cells))
  (hb:some g=nv.ownBlock\/g=(w.alloc o).heap.size) :
  ∃F',jQ B WV (w3.setCell ⟨P,5,none⟩ (.slice (some ⟨g,0,none⟩) (s.nodes.length+1) cap)) P ws { s with nodes:=s.nodes++[x] } F'/\am F w F' (w3.setCell ⟨P,5,none⟩ (.slice (some ⟨g,0,none⟩) (s.nodes.length+1) cap)):=by
 have fQ:=h.apart;have iB:=h.is.mem;have jO:(w.alloc o).heap.size=w.heap.size+1:=by simp
 obtain⟨hP,hB,h1,h2,h3,h4,hF,hN⟩:=h;have wN:P<w.heap.size:=(iB P (by rw[hF];simp)).2;have hgP:g≠P:=by
  rcases hb with hb|hb
  .exact fQ.1 g (by simp[<-hb])
  .omega
 have fG:∀k,k<w.heap.size->nv.ownBlock≠some k->k≠P->(w3.setCell ⟨P,5,none⟩ (.slice (some ⟨g,0,none⟩) (s.nodes.length+1) cap)).heap[k]?=w.heap[k]?:=by
  intro k hk aM hkP;rw[heap_setCell _ _ _ _ hkP,hg.block k (by omega) (λe=>aM e.symm),heap_alloc _ _ _ hk]
 have MH:w3.heap[P]?=some (.cells #[wv,.int .i64 s.pos,.bool s.failed,vv,hv,nv] 133 (0,0)):=by
  rw[hg.block P (by omega) (λe=>(fQ.1 P (by simp[<-e])) rfl),heap_alloc _ _ _ wN];exact hP
 have ar:∀k,wv.ownBlock=some k\/vv.ownBlock=some k\/hv.ownBlock=some k\/nv.ownBlock=some k->k<w.heap.size:=λk hk=>(iB k (by rw[hF];simpa using zq1 hk)).2;have hgF:g∈F\/g=w.heap.size+1:=by
  rcases hb with hb|hb
  .left;rw[hF];simp[<-hb]
  .right;omega
 refine⟨P::(wv.ownBlock.toList++(vv.ownBlock.toList++(hv.ownBlock.toList++[g]))),⟨wv,vv,hv,.slice (some ⟨g,0,none⟩) (s.nodes.length+1) cap,vT MH _,hB,?_,?_,?_,?_,rfl,?_⟩,⟨hg.os,hg.tape,hg.output,?_,?_,?_⟩⟩
 .exact ae h1 (λk hk=>fG k (ar k (by simp[hk])) (λe=>by have:=fQ;grind) (λe=>(fQ.1 k (by simp[hk])) e))
 .exact ae h2 (λk hk=>fG k (ar k (by simp[hk])) (λe=>by have:=fQ;grind) (λe=>(fQ.1 k (by simp[hk])) e))
 .exact ae h3 (λk hk=>fG k (ar k (by simp[hk])) (λe=>by have:=fQ;grind) (λe=>(fQ.1 k (by simp[hk])) e))
 .exact ae (gu aN (by simp) (by simp[a7])) (λk hk=>heap_setCell _ _ _ _ (by simp[Value.ownBlock]at hk;subst hk;exact hgP))
 .rw[hF]at hN;rcases hb with hb|hb
  .have e:nv.ownBlock.toList=[g]:=(by rw[<-hb];rfl);rw[e]at hN;exact hN
  .refine Oe hN ?_;intro hm;have:=ar g (by simpa using Or.resolve_left (mem_cons.1 hm) hgP |> λz=>(by grind));omega
 .have:=hg.size;simp[World.setCell];omega
 .intro k hk hkF;exact fG k hk (λe=>hkF (by rw[hF];simp[e])) (λe=>hkF (by rw[hF,e];simp))
 .intro k hk;rw[hF];rw[hF]at hgF;grind
end
def VH(u:ByteArray):UInt8:=u.data.toList.headD 0
def put(l:List UInt8)(c:UInt8):List UInt8:=if plc l c=l.length then l++[c] else l
def rg(ws:List ByteArray)(s:PS):Nat:=if tK (pk ws s) then plc s.vars (VH (pk ws s)) else 0
def cG(ws:List ByteArray)(s:PS):PS:=if tK (pk ws s) then { s with pos:=s.pos+1,vars:=put s.vars (VH (pk ws s)) } else s.fail
theorem yA{u:ByteArray}(h:0<u.size):VH u=u[0]:=by
 obtain⟨⟨l⟩⟩:=u;match l,h with
 |c::r,_=>rfl
theorem JB{u:ByteArray}(h:tK u=true):u.size=1:=by
 by_cases hs:u.size=1
 .exact hs
 .rw[tL u hs]at h;cases h
theorem OK(l:List UInt8)(c:UInt8):(put l c).length<=l.length+1:=by unfold put;split <;> simp
theorem infoNode:(prog.info? 186).map (λi=>(i.zero,i.size,i.bytes))=some (some (.agg #[.int .i64 0,.int .i64 0,.int .i64 0,.int .i64 0,.int .i64 0,.int .i64 0]),6,48):=by kernel_rfl
section
variable {B:Nat} {WV:Value} {w:World} {P:Nat} {ws:List ByteArray} {s:PS} {F:List Nat} {wv vv hv nv:Value}
theorem Cv.va(h:Cv ws s)(hp:s.pos<ws.length)(c:UInt8):Cv ws { s with pos:=s.pos+1,vars:=put s.vars c }:=by
 obtain⟨a,b,d,e⟩:=h;have:=OK s.vars c;simp only[Cv];omega
theorem cU.readsV(h:cU B WV w P ws s F wv vv hv nv):w.cell? ⟨P,1,none⟩=some (.int .i64 s.pos)/\w.cell? ⟨P,2,none⟩=some (.bool s.failed)/\w.cell? ⟨P,3,none⟩=some vv/\w.cell? ⟨P,4,none⟩=some hv/\w.cell? ⟨P,5,none⟩=some nv/\(∀j,w.frozen? ⟨P,j,none⟩=false):=by
 obtain⟨hP,_⟩:=h;obtain⟨⟨c0,c1,c2,c3,c4,c5⟩,fz⟩:=im hP;exact⟨c1,c2,c3,c4,c5,fz⟩
theorem pY{e:TypeId}{v:Value}{sz n:Nat}{xs:List Value}(h:w.ownsRow B e sz v n xs)(k:Nat)(o:Obj):((w.drewN k).alloc o).ownsRow B e sz v n xs:=ownsRow.alloc (w:=w.drewN k) h o
theorem On(w:World)(k:Nat)(x:Value)(T:TypeId):∀(j:Nat) (u:Value),[x][j]?=some u->((w.drewN k).alloc (.cells #[x] T)).cell? ((⟨w.heap.size,0,none⟩:Addr).add j)=some u:=zc (w.drewN k) x T
theorem tU(n:Int):∀u∈[Value.int .u8 n],u.oneCell'=true:=by intro u hu;simp at hu;subst hu;rfl
theorem xe{B:Nat}(h:B<=w.heap.size)(k:Nat)(o:Obj):B<=((w.drewN k).alloc o).heap.size:=by simp;omega
theorem qn{w2:World}{o:Obj}{row:Option Nat}{k:Nat}(hg:((w.drewN k).alloc o).grownBy w2 row)(hP:P<w.heap.size)(aM:row≠some P):w2.heap[P]?=w.heap[P]?:=by
 rw[hg.block P (by simp;omega) (λe=>aM e.symm)];exact heap_alloc (w.drewN k) _ _ hP
theorem fP{w2:World}{o:Obj}{row:Option Nat}{k:Nat}(hg:((w.drewN k).alloc o).grownBy w2 row)(hP:P<w.heap.size)(aM:row≠some P)(j:Nat){v:Value}(h:w.cell? ⟨P,j,none⟩=some v):w2.cell? ⟨P,j,none⟩=some v :=
 (cell?_of_block (a:=⟨P,j,none⟩) (qn hg hP aM)).trans h
theorem eg{w2:World}{o:Obj}{row:Option Nat}{k:Nat}(hg:((w.drewN k).alloc o).grownBy w2 row)(hP:P<w.heap.size)(aM:row≠some P)(j:Nat){b:Bool}(h:w.frozen? ⟨P,j,none⟩=b):w2.frozen? ⟨P,j,none⟩=b :=
 (World.frozen?_of_block (a:=⟨P,j,none⟩) (qn hg hP aM)).trans h
theorem ja{n j:Nat}{v:Value}{l:List UInt8}{c:UInt8}(hj:j=plc l c)(h:w.ownsRow B 5 1 v l.length (bc l))(hl:l.length<=20000):
  Calls prog 212 #[v,.int .u8 (c.toNat:Int)] (w.drewN n) λe w''=>e=.returned (.int .i64 j)/\∃m,w''=w.drewN m:=by
 subst hj;exact Calls.quiet_of_same (JM (B:=B) (w:=w.drewN n) c h hl)
theorem el(h:ee B WV w P ws s F):
  Calls prog 215 #[.pointer (some ⟨P,0,none⟩)] w λe w'=>e=.returned (.int .i64 (rg ws s))/\∃F',ee B WV w' P ws (cG ws s) F'/\am F w F' w':=by
 obtain⟨i0,hi,dG,du,ef⟩:=info_parts infoByte;have HQ:=ab h;have HK:=ab (jG h);obtain⟨wv,vv,hv,nv,dL⟩:=h.m.named;obtain⟨hl,hp,mu,hhl⟩:=h.f;clear h;obtain⟨u,hu⟩:∃u,u=pk ws s:=⟨_,rfl⟩;have HU:=ab hu;rw[<-hu]at HK;clear hu;cases eT:tK u with
 |false =>
  have HI:Hid (rg ws s=0):=ab (by unfold rg;rw[<-uh HU,eT];rfl);have HS:Hid (cG ws s=s.fail):=ab (by unfold cG;rw[<-uh HU,eT];rfl);obtain⟨c1,c2,c3,c4,c5,fz⟩:=dL.readsV;have f2:=fz 2;clear c1 c3 c4 c5 fz dL;go_enter func215,ntmps215;go_wp2_with (first|(go_at_call 160;refine(uh HK).mono ?_;rintro e w' ⟨rfl,n,rfl⟩)|(go_at_call 248;refine(lg u _).mono ?_;rintro e w' ⟨rfl,rfl⟩))
  go_ret;exact⟨aQ (by rw[uh HI];rfl),F,⟨by rw[uh HS];exact((uh HQ).m.drewN n).setFailed true,by rw[uh HS];exact(uh HQ).f⟩,((am.refl F w).drewN n).setCell (zq0 (uh HQ).m.memP) _⟩
 |true =>
  have ND:0<u.size:=by rw[JB eT];omega
  have HI:Hid (rg ws s=plc s.vars u[0]):=ab (by unfold rg;rw[<-uh HU,eT,if_pos rfl,yA ND]);have HS:Hid (cG ws s={ s with pos:=s.pos+1,vars:=put s.vars u[0] }):=ab (by unfold cG;rw[<-uh HU,eT,if_pos rfl,yA ND]);have ar:s.pos<ws.length:=(xp (by rw[<-uh HU];omega)).2;have YZ:=EN s.vars u[0];obtain⟨j,hj⟩:∃j,j=plc s.vars u[0]:=⟨_,rfl⟩;have HJ:=ab hj;rw[<-hj]at YZ;clear hj;obtain⟨ao,cap,rfl,hm,_⟩:=jU dL.2.2.2.1;obtain⟨c1,c2,c3,c4,c5,fz⟩:=dL.readsV;have f1:=fz 1;have u7:=ab dL;clear fz c2 c3 c4 c5 dL;go_enter func215,ntmps215;go_wp2_with (first|(go_at_call 160;refine(uh HK).mono ?_;rintro e w' ⟨rfl,n,rfl⟩)|(go_at_call 248;refine(lg u _).mono ?_;rintro e w' ⟨rfl,rfl⟩))
  have pQ:=((uh u7).drewN n).setPos (s.pos+1);have mt:am F w F ((w.drewN n).setCell ⟨P,1,none⟩ (.int .i64 ((s.pos:Int)+1))):=((am.refl F w).drewN n).setCell (zq0 (uh HQ).m.memP) _;rw[show(((s.pos+1:Nat)):Int)=(s.pos:Int)+1 by omega]at pQ;generalize (w.drewN n).setCell ⟨P,1,none⟩ (.int .i64 ((s.pos:Int)+1))=w1 at pQ mt ⊢;clear c1 f1;obtain⟨_,_,c3,_,_,fz⟩:=pQ.readsV;have f3:=fz 3;have aF:=pQ.2.2.2.1;have HR:=ab aF;have v9:=ab pQ;have bA:=ab mt;clear fz pQ mt aF;have wN:P<w1.heap.size:=((uh v9).is.mem P (uh v9).is.memP).2;have RW:B<=w1.heap.size:=by have:=((uh v9).is.mem P (uh v9).is.memP).1;omega
  have CC:Hid ((Value.slice ao s.vars.length cap).ownBlock≠some P):=ab (λe=>(uh v9).apart.1 P (by simp[e]) rfl);by_cases eh:j=s.vars.length
  .have hjt:((j:Int)==(s.vars.length:Int))=true:=(by simp[eh]);have WM:=ab eh;clear eh;have c3a:∀(k:Nat) (o:Obj),((w1.drewN k).alloc o).cell? ⟨P,3,none⟩=some (.slice ao s.vars.length cap):=λk o=>(cell?_of_block (a:=⟨P,3,none⟩) (heap_alloc (w1.drewN k) o P wN)).trans c3;go_quiet ((go_at_call 212;exact ja (uh HJ) (uh HR) (by omega)))
   go_wp2_with fail
   go_region_law (refine ib _ rfl (.tmp 38) (.tmp 41) 101 rfl B 5 i0 (.int .u8 0) 1 1 underlying101 hi dG du ef rfl (by decide) (.slice ao s.vars.length cap) s.vars.length (bc s.vars) (by simp[Act.eval]) (pY (uh HR) _ _) ⟨w1.heap.size,0,none⟩ 1 [.int .u8 (u[0].toNat:Int)] (by simp[Act.eval]) rfl (On _ _ _ _) (tU _) (by omega) (by omega) (xe RW _ _) ?_;intro g2 cap2 w2 aZ aI cE;have c3':=fP aI wN (uh CC) 3 c3;have f3':=eg aI wN (uh CC) 3 f3;have WT:=ab aZ;have HG2:=ab aI;have bu:=ab cE;clear aZ aI cE)
   all_goals
    go_wp2_with fail
    go_ret;obtain⟨F',X3,Sj⟩:=cU.pushVars u[0] ((uh v9).drewN _) (uh HG2) (uh WT) (uh bu);refine⟨aQ (by rw[uh HI,<-uh HJ]),F',⟨?_,?_⟩,((uh bA).drewN _).trans Sj⟩
    .rw[uh HS];unfold put;rw[if_pos (by rw[<-uh HJ];exact uh WM)];exact X3
    .rw[uh HS];exact(uh HQ).f.va ar _
  .have hjt:((j:Int)==(s.vars.length:Int))=false:=(by simp;omega);have WM:=ab eh;clear eh;go_quiet ((go_at_call 212;exact ja (uh HJ) (uh HR) (by omega)))
   go_wp2_with fail
   go_ret;refine⟨aQ (by rw[uh HI,<-uh HJ]),F,⟨?_,?_⟩,(uh bA).drewN _⟩
   .rw[uh HS];unfold put;rw[if_neg (by rw[<-uh HJ];exact uh WM)];exact(uh v9).is.drewN _
   .rw[uh HS];exact(uh HQ).f.va ar _
end
def vK:ByteArray:=⟨#[110,105,108]⟩
def fE(ws:List ByteArray)(s:PS):Nat:=if em ws vK s then 0 else 1
def gU(ws:List ByteArray)(s:PS):Nat:=if em ws vK s then 0 else rg ws s
def dS(ws:List ByteArray)(s:PS):PS:=if em ws vK s then s.adv else cG ws s
section
variable {B:Nat} {WV:Value} {w:World} {P:Nat} {ws:List ByteArray} {s:PS} {F:List Nat}
theorem bq{w1:World}{F':List Nat}{xs:Array Value}{T:TypeId}(h0:jQ B WV w P ws s F)(hS:am F (w.alloc (.cells xs T)) F' w1):
  w1.heap[w.heap.size]?=some (.cells xs T (0,0))/\w.heap.size ∉ F'/\w.heap.size<w1.heap.size:=by
 have hn:w.heap.size ∉ F:=λhm=>by have:=(h0.mem _ hm).2;omega
 refine⟨?_,?_,?_⟩
 .rw[hS.block _ (by simp) hn];exact heap_alloc_new w _
 .intro hm;rcases hS.foot _ hm with h|h
  .exact hn h
  .simp at h;omega
 .have:=hS.size;simp at this;omega
theorem ay{w0 w1:World}{F':List Nat}{r:Nat}{o:Obj}(hr:w0.heap[r]?=some o)(hn:r ∉ F)(hS:am F w0 F' w1):w1.heap[r]?=some o/\r ∉ F'/\r<w1.heap.size:=by
 have hl:=(Array.getElem?_eq_some_iff.1 hr).1;refine⟨?_,?_,?_⟩
 .rw[hS.block _ hl hn];exact hr
 .intro hm;rcases hS.foot _ hm with h|h
  .exact hn h
  .omega
 .have:=hS.size;omega
theorem jd{r:Nat}{a b:Value}{T:TypeId}(h:w.heap[r]?=some (.cells #[a,b] T (0,0))):(w.cell? ⟨r,0,none⟩=some a/\w.cell? ⟨r,1,none⟩=some b)/\w.frozen? ⟨r,0,none⟩=false/\w.frozen? ⟨r,1,none⟩=false:=by
 refine⟨⟨?_,?_⟩,?_,?_⟩ <;> simp[World.cell?,World.frozen?,h]
theorem ee.alloc(h:ee B WV w P ws s F)(o:Obj):ee B WV (w.alloc o) P ws s F:=⟨h.m.alloc o,h.f⟩
theorem ee.setOther(h:ee B WV w P ws s F){p:Addr}(hp:p.block ∉ F)(u:Value):ee B WV (w.setCell p u) P ws s F:=⟨h.m.setOther hp u,h.f⟩
theorem fV(h:ee B WV w P ws s F):
  Calls prog 213 #[.pointer (some ⟨P,0,none⟩)] w λe w'=>e=.returned (.agg #[.int .i64 (fE ws s),.int .i64 (gU ws s)])/\∃F',ee B WV w' P ws (dS ws s) F'/\am F w F' w':=by
 have HQ:=ab h;have HA:=λo=>ab (aB vK (by decide) (h.alloc o));clear h;cases hb:em ws vK s with
 |true =>
  have HK:Hid (fE ws s=0):=ab (if_pos hb);have HI:Hid (gU ws s=0):=ab (if_pos hb);have HS:Hid (dS ws s=jR ws vK s):=ab (by unfold dS jR;rw[if_pos hb,if_pos hb]);simp only[hb]at HA;clear hb;go_enter func213,ntmps213;go_wp2_with (go_at_call 158;refine(uh (HA _)).mono ?_;rintro e w' ⟨rfl,hI,hS⟩;obtain⟨hb,hn,hl⟩:=bq (uh HQ).m hS;obtain⟨⟨d0,d1⟩,e0,e1⟩:=jd hb;have db:=ab hI;have bz:=ab hS;clear hI hS hb)
  refine bodyPost_ret (v:=.agg #[.int .i64 0,.int .i64 0]) (by simp[results,Tryz.results213,go_sem,d0,d1]) rfl ⟨by rw[uh HK,uh HI];rfl,F,?_,?_⟩
  .rw[uh HS];exact((uh db).setOther hn _).setOther hn _
  .exact((((am.refl F w).alloc _).trans (uh bz)).setCell (zq1 (zq4 _)) _).setCell (zq1 (zq4 _)) _
 |false =>
  have HK:Hid (fE ws s=1):=ab (if_neg (by simp[hb]));have HI:Hid (gU ws s=rg ws s):=ab (if_neg (by simp[hb]));have HS:Hid (dS ws s=cG ws s):=ab (if_neg (by simp[hb]));have qe:Hid (jR ws vK s=s):=ab (if_neg (by simp[hb]));simp only[hb]at HA;clear hb;go_enter func213,ntmps213;go_wp2_with (go_at_call 158;refine(uh (HA _)).mono ?_;rintro e w' ⟨rfl,hI,hS⟩;obtain⟨hb,hn,hl⟩:=bq (uh HQ).m hS;rw[uh qe]at hI;have db:=ab hI;have bz:=ab hS;have HB:=ab hb;clear hI hS hb)
  refine(el (uh db)).mono ?_;rintro e w2 ⟨rfl,F',eF,cd⟩;obtain⟨bF,uS,Nf⟩:=ay (uh HB) hn cd;obtain⟨⟨d0,d1⟩,e0,e1⟩:=jd bF;have gI:=ab eF;have dd:=ab cd;clear eF cd bF;go_wp2_with fail
  refine bodyPost_ret (v:=.agg #[.int .i64 1,.int .i64 (rg ws s)]) (by simp[results,Tryz.results213,go_sem,d0,d1]) rfl ⟨by rw[uh HK,uh HI];rfl,F',?_,?_⟩
  .rw[uh HS];exact((uh gI).setOther uS _).setOther uS _
  .exact(((((am.refl F w).alloc _).trans (uh bz)).trans (uh dd)).setCell (zq1 (zq4 _)) _).setCell (zq1 (zq4 _)) _
end
def E5(ws:List ByteArray)(s:PS):Nat:=if Ps (pk ws s) then 2 else fE ws s
def E4(ws:List ByteArray)(s:PS):Nat:=if Ps (pk ws s) then plc s.hid (VH (pk ws s)) else gU ws s
def kD(ws:List ByteArray)(s:PS):PS:=if Ps (pk ws s) then { s with pos:=s.pos+1,hid:=put s.hid (VH (pk ws s)) } else dS ws s
theorem Pu{u:ByteArray}(h:Ps u=true):u.size=1:=by
 by_cases hs:u.size=1
 .exact hs
 .rw[Hx u hs]at h;cases h
section
variable {B:Nat} {WV:Value} {w:World} {P:Nat} {ws:List ByteArray} {s:PS} {F:List Nat} {wv vv hv nv:Value}
theorem Cv.te(h:Cv ws s)(hp:s.pos<ws.length)(c:UInt8):Cv ws { s with pos:=s.pos+1,hid:=put s.hid c }:=by
 obtain⟨a,b,d,e⟩:=h;have:=OK s.hid c;simp only[Cv];omega
theorem oT(h:ee B WV w P ws s F):
  Calls prog 184 #[.pointer (some ⟨P,0,none⟩)] w λe w'=>e=.returned (.agg #[.int .i64 (E5 ws s),.int .i64 (E4 ws s)])/\∃F',ee B WV w' P ws (kD ws s) F'/\am F w F' w':=by
 obtain⟨i0,hi,dG,du,ef⟩:=info_parts infoByte;have HQ:=ab h;obtain⟨w0,fS⟩:∃w0,w0=w.alloc (.cells #[.int .i64 0,.int .i64 0] 184):=⟨_,rfl⟩;have h0:ee B WV w0 P ws s F:=by rw[fS];exact h.alloc _
 have WX:Hid (am F w F w0):=ab (by rw[fS];exact(am.refl F w).alloc _);have Ia:Hid (w0.heap[w.heap.size]?=some (.cells #[.int .i64 0,.int .i64 0] 184 (0,0))):=ab (by rw[fS];exact heap_alloc_new w _);have WQ:Hid (w.heap.size ∉ F):=ab (λhm=>by have:=(h.m.mem _ hm).2;omega);have Xb:=ab fS;clear fS;have HQ0:=ab h0;have HK:=ab (jG h0);obtain⟨wv,vv,hv,nv,dL⟩:=h0.m.named;obtain⟨hl,hp,mu,hhl⟩:=h.f;clear h h0;obtain⟨u,hu⟩:∃u,u=pk ws s:=⟨_,rfl⟩;have HU:=ab hu;rw[<-hu]at HK;clear hu;cases eT:Ps u with
 |false =>
  have HIK:Hid (E5 ws s=fE ws s):=ab (by unfold E5;rw[<-uh HU,eT];rfl);have HII:Hid (E4 ws s=gU ws s):=ab (by unfold E4;rw[<-uh HU,eT];rfl);have HS:Hid (kD ws s=dS ws s):=ab (by unfold kD;rw[<-uh HU,eT];rfl);clear dL;go_enter func184,ntmps184;go_wp2_with (first|(rw[<-uh Xb];go_at_call 160;refine(uh HK).mono ?_;rintro e w' ⟨rfl,n,rfl⟩)|(go_at_call 211;refine(oj u _).mono ?_;rintro e w' ⟨rfl,rfl⟩))
  refine(fV (w:=w0.drewN n) ⟨(uh HQ0).m.drewN n,(uh HQ0).f⟩).mono ?_;rintro e w2 ⟨rfl,F',eF,cd⟩;obtain⟨bF,uS,Nf⟩:=ay (w0:=w0.drewN n) (uh Ia) (uh WQ) cd;obtain⟨⟨d0,d1⟩,e0,e1⟩:=jd bF;have gI:=ab eF;have dd:=ab cd;clear eF cd bF;go_wp2_with fail
  refine bodyPost_ret (v:=.agg #[.int .i64 (fE ws s),.int .i64 (gU ws s)]) (by simp[results,Tryz.results184,go_sem,d0,d1]) rfl ⟨by rw[uh HIK,uh HII],F',?_,?_⟩
  .rw[uh HS];exact((uh gI).setOther uS _).setOther uS _
  .exact((((uh WX).drewN n).trans (uh dd)).setCell (zq1 (zq4 _)) _).setCell (zq1 (zq4 _)) _
 |true =>
  have ND:0<u.size:=by rw[Pu eT];omega
  have HIK:Hid (E5 ws s=2):=ab (by unfold E5;rw[<-uh HU,eT,if_pos rfl]);have HI:Hid (E4 ws s=plc s.hid u[0]):=ab (by unfold E4;rw[<-uh HU,eT,if_pos rfl,yA ND]);have HS:Hid (kD ws s={ s with pos:=s.pos+1,hid:=put s.hid u[0] }):=ab (by unfold kD;rw[<-uh HU,eT,if_pos rfl,yA ND]);have ar:s.pos<ws.length:=(xp (by rw[<-uh HU];omega)).2;have YZ:=EN s.hid u[0];obtain⟨j,hj⟩:∃j,j=plc s.hid u[0]:=⟨_,rfl⟩;have HJ:=ab hj;rw[<-hj]at YZ;clear hj;obtain⟨ao,cap,rfl,hm,_⟩:=jU dL.2.2.2.2.1;obtain⟨c1,c2,c3,c4,c5,fz⟩:=dL.readsV;have f1:=fz 1;have u7:=ab dL;clear fz c2 c3 c4 c5 dL;go_enter func184,ntmps184;go_wp2_with (first|(rw[<-uh Xb];go_at_call 160;refine(uh HK).mono ?_;rintro e w' ⟨rfl,n,rfl⟩)|(go_at_call 211;refine(oj u _).mono ?_;rintro e w' ⟨rfl,rfl⟩))
  have pQ:=((uh u7).drewN n).setPos (s.pos+1);have mt:am F w0 F ((w0.drewN n).setCell ⟨P,1,none⟩ (.int .i64 ((s.pos:Int)+1))):=((am.refl F w0).drewN n).setCell (zq0 (uh HQ).m.memP) _;rw[show(((s.pos+1:Nat)):Int)=(s.pos:Int)+1 by omega]at pQ;generalize (w0.drewN n).setCell ⟨P,1,none⟩ (.int .i64 ((s.pos:Int)+1))=w1 at pQ mt ⊢;clear c1 f1;obtain⟨aO,jg,uO⟩:=ay (uh Ia) (uh WQ) mt;have cY:=ab aO;clear aO;obtain⟨_,_,_,c4,_,fz⟩:=pQ.readsV;have f4:=fz 4;have aF:=pQ.2.2.2.2.1;have HR:=ab aF;have v9:=ab pQ;have bA:=ab mt;clear fz pQ mt aF;have wN:P<w1.heap.size:=((uh v9).is.mem P (uh v9).is.memP).2;have RW:B<=w1.heap.size:=by have:=((uh v9).is.mem P (uh v9).is.memP).1;omega
  have CC:Hid ((Value.slice ao s.hid.length cap).ownBlock≠some P):=ab (λe=>(uh v9).apart.1 P (by simp[e]) rfl);by_cases eh:j=s.hid.length
  .have hjt:((j:Int)==(s.hid.length:Int))=true:=(by simp[eh]);have WM:=ab eh;clear eh;have c4a:∀(k:Nat) (o:Obj),((w1.drewN k).alloc o).cell? ⟨P,4,none⟩=some (.slice ao s.hid.length cap):=λk o=>(cell?_of_block (a:=⟨P,4,none⟩) (heap_alloc (w1.drewN k) o P wN)).trans c4;go_quiet ((go_at_call 212;exact ja (uh HJ) (uh HR) (by omega)))
   go_wp2_with fail
   go_region_law (refine ib _ rfl (.tmp 34) (.tmp 37) 101 rfl B 5 i0 (.int .u8 0) 1 1 underlying101 hi dG du ef rfl (by decide) (.slice ao s.hid.length cap) s.hid.length (bc s.hid) (by simp[Act.eval]) (pY (uh HR) _ _) ⟨w1.heap.size,0,none⟩ 1 [.int .u8 (u[0].toNat:Int)] (by simp[Act.eval]) rfl (On _ _ _ _) (tU _) (by omega) (by omega) (xe RW _ _) ?_;intro g2 cap2 w2 aZ aI cE;have c4':=fP aI wN (uh CC) 4 c4;have f4':=eg aI wN (uh CC) 4 f4;obtain⟨F',X3,Sj⟩:=cU.pushHid u[0] ((uh v9).drewN _) aI aZ cE;have uH:=ab X3;have HS':=ab Sj;clear aZ aI cE X3 Sj)
   all_goals
    obtain⟨bF,uS,Nf⟩:=ay (w0:=w1.drewN _) (uh cY) jg (uh HS');generalize Bw:World.setCell _ (⟨P,4,none⟩:Addr) _=w3 at uH HS' bF Nf ⊢;obtain⟨⟨d0,d1⟩,e0,e1⟩:=jd bF;clear bF Bw;go_wp2_with fail
    refine bodyPost_ret (v:=.agg #[.int .i64 2,.int .i64 j]) (by simp[results,Tryz.results184,go_sem,d0,d1]) rfl ⟨by rw[uh HIK,uh HI,<-uh HJ];rfl,F',⟨?_,?_⟩,?_⟩
    .rw[uh HS];unfold put;rw[if_pos (by rw[<-uh HJ];exact uh WM)];exact((uh uH).setOther uS _).setOther uS _
    .rw[uh HS];exact(uh HQ).f.te ar _
    .exact((((uh WX).trans ((uh bA).drewN _)).trans (uh HS')).setCell (zq1 (zq4 _)) _).setCell (zq1 (zq4 _)) _
  .have hjt:((j:Int)==(s.hid.length:Int))=false:=(by simp;omega);have WM:=ab eh;clear eh;obtain⟨⟨d0,d1⟩,e0,e1⟩:=jd (uh cY);go_quiet ((go_at_call 212;exact ja (uh HJ) (uh HR) (by omega)))
   go_wp2_with fail
   refine bodyPost_ret (v:=.agg #[.int .i64 2,.int .i64 j]) (by simp[results,Tryz.results184,go_sem,d0,d1]) rfl ⟨by rw[uh HIK,uh HI,<-uh HJ];rfl,F,⟨?_,?_⟩,?_⟩
   .rw[uh HS];unfold put;rw[if_neg (by rw[<-uh HJ];exact uh WM)];exact(((uh v9).is.drewN _).setOther jg _).setOther jg _
   .rw[uh HS];exact(uh HQ).f.te ar _
   .exact((((uh WX).trans (uh bA)).drewN _).setCell (zq1 (zq4 _)) _).setCell (zq1 (zq4 _)) _
end
def om:ByteArray:=⟨#[61]⟩
def BC:ByteArray:=⟨#[33,61]⟩
def kTo:ByteArray:=⟨#[45,62]⟩
def fI:ByteArray:=⟨#[40]⟩
def tG:ByteArray:=⟨#[44]⟩
def jh:ByteArray:=⟨#[41]⟩
def yQ:ByteArray:=⟨#[101,109,112]⟩
def Qm:ByteArray:=⟨#[108,115]⟩
def fi:ByteArray:=⟨#[42]⟩
def ua(ws:List ByteArray)(s:PS):Nat:=if em ws om s then 1 else if em ws BC s then 2 else 3
def iJ(ws:List ByteArray)(s:PS):PS:=if em ws om s then s.adv else if em ws BC s then s.adv else bB ws kTo s
structure bt where
 k:Nat
 lk:Nat
 li:Nat
 rk:Nat
 ri:Nat
def bt.cells(a:bt):List Value:=[.int .i64 a.k,.int .i64 a.lk,.int .i64 a.li,.int .i64 a.rk,.int .i64 a.ri]
section
variable {B:Nat} {WV:Value} {w:World} {P:Nat} {ws:List ByteArray} {s:PS} {F:List Nat} {wv vv hv nv:Value}
theorem zo(h:ee B WV w P ws s F):
  Calls prog 185 #[.pointer (some ⟨P,0,none⟩)] w λe w'=>e=.returned (.int .i64 (ua ws s))/\ee B WV w' P ws (iJ ws s) F/\am F w F w':=by
 have HQ:=ab h;have HA:=ab (aB om (by decide) h);clear h;cases hb:em ws om s with
 |true =>
  have HK:Hid (ua ws s=1):=ab (if_pos hb);have HS:Hid (iJ ws s=jR ws om s):=ab (by unfold iJ jR;rw[if_pos hb,if_pos hb]);simp only[hb]at HA;clear hb;go_enter func185,ntmps185;go_wp2_with (go_at_call 158;refine(uh HA).mono ?_;rintro e w' ⟨rfl,hI,hS⟩)
  go_ret;exact⟨aQ (by rw[uh HK];rfl),by rw[uh HS];exact hI,hS⟩
 |false =>
  have qe:Hid (jR ws om s=s):=ab (if_neg (by simp[hb]));simp only[hb]at HA;cases ax:em ws BC s with
  |true =>
   have HK:Hid (ua ws s=2):=ab (by unfold ua;rw[hb,ax];rfl);have HS:Hid (iJ ws s=jR ws BC s):=ab (by unfold iJ jR;rw[hb,ax];rfl);have bu:=ab ax;clear hb ax;go_enter func185,ntmps185;go_wp2_with fail
   refine(uh HA).mono ?_;rintro e w1 ⟨rfl,hI,hS⟩;rw[uh qe]at hI;have jP:=aB BC (by decide) hI;rw[uh bu]at jP;have jP:=ab jP;clear hI;have bC:=ab hS;clear hS;go_wp2_with fail
   refine(uh jP).mono ?_;rintro e w2 ⟨rfl,bT,bK⟩;go_wp2_with fail
   go_ret;exact⟨aQ (by rw[uh HK];rfl),by rw[uh HS];exact bT,(uh bC).trans bK⟩
  |false =>
   have HK:Hid (ua ws s=3):=ab (by unfold ua;rw[hb,ax];rfl);have HS:Hid (iJ ws s=bB ws kTo s):=ab (by unfold iJ;rw[hb,ax];rfl);have KL:Hid (jR ws BC s=s):=ab (if_neg (by simp[ax]));have bu:=ab ax;clear hb ax;go_enter func185,ntmps185;go_wp2_with fail
   refine(uh HA).mono ?_;rintro e w1 ⟨rfl,hI,hS⟩;rw[uh qe]at hI;have jP:=aB BC (by decide) hI;rw[uh bu,uh KL]at jP;have jP:=ab jP;clear hI;have bC:=ab hS;clear hS;go_wp2_with fail
   refine(uh jP).mono ?_;rintro e w2 ⟨rfl,bT,bK⟩;have HE:=ab (aR kTo (by decide) bT);clear bT;go_wp2_with fail
   refine(uh HE).mono ?_;rintro e w3 ⟨rfl,eF,cd⟩;go_wp2_with fail
   go_ret;exact⟨aQ (by rw[uh HK];rfl),by rw[uh HS];exact eF,((uh bC).trans bK).trans cd⟩
theorem xZ{r:Nat}{a b c d e:Value}{T:TypeId}(h:w.heap[r]?=some (.cells #[a,b,c,d,e] T (0,0))):
  (w.cell? ⟨r,0,none⟩=some a/\w.cell? ⟨r,1,none⟩=some b/\w.cell? ⟨r,2,none⟩=some c/\w.cell? ⟨r,3,none⟩=some d/\w.cell? ⟨r,4,none⟩=some e) /\
  w.frozen? ⟨r,0,none⟩=false/\w.frozen? ⟨r,1,none⟩=false/\w.frozen? ⟨r,2,none⟩=false/\w.frozen? ⟨r,3,none⟩=false/\w.frozen? ⟨r,4,none⟩=false:=by
 refine⟨⟨?_,?_,?_,?_,?_⟩,?_,?_,?_,?_,?_⟩ <;> simp[World.cell?,World.frozen?,h]
def vM(ws:List ByteArray)(s:PS):PS:=bB ws fI s
def tI(ws:List ByteArray)(s:PS):PS:=bB ws tG (kD ws (vM ws s))
def GI(ws:List ByteArray)(s:PS):PS:=bB ws jh (kD ws (tI ws s))
def Zl(ws:List ByteArray)(s:PS):bt:=⟨4,E5 ws (vM ws s),E4 ws (vM ws s),E5 ws (tI ws s),E4 ws (tI ws s)⟩
theorem NT(h:ee B WV w P ws s F):
  Calls prog 183 #[.pointer (some ⟨P,0,none⟩)] w λe w'=>e=.returned (.agg (Zl ws s).cells.toArray)/\∃F',ee B WV w' P ws (GI ws s) F'/\am F w F' w':=by
 have HQ:=ab h;have HA:=λo=>ab (aR fI (by decide) (h.alloc o));clear h;go_enter func183,ntmps183;go_wp2_with fail
 refine(uh (HA _)).mono ?_;rintro e w1 ⟨rfl,cV,bE⟩;obtain⟨aO,jg,uO⟩:=bq (uh HQ).m bE;have cY:=ab aO;have dy:=ab cV;have bC:=ab (((am.refl F w).alloc _).trans bE);clear aO cV bE;go_wp2_with fail
 refine(oT (uh dy)).mono ?_;rintro e w2 ⟨rfl,F2,bT,bK⟩;obtain⟨ax,nE,uQ⟩:=ay (uh cY) jg bK;have bu:=ab ax;have db:=ab bT;have bz:=ab ((uh bC).trans bK);clear ax bT bK;go_wp2_with fail
 refine(aR tG (by decide) ((uh db).alloc _)).mono ?_;rintro e w3 ⟨rfl,eF,cd⟩;obtain⟨bF,uS,Nf⟩:=ay (uh bu) nE (((am.refl F2 w2).alloc _).trans cd);obtain⟨hc3,vD,Bj⟩:=bq (uh db).m cd;have mN:=ab bF;have HC3:=ab hc3;have gI:=ab eF;have dd:=ab ((uh bz).trans (((am.refl F2 w2).alloc _).trans cd));clear bF hc3 eF cd;go_wp2_with fail
 refine(oT (uh gI)).mono ?_;rintro e w4 ⟨rfl,F4,ko,dA⟩;obtain⟨gX,Ec,hl4⟩:=ay (uh mN) uS dA;obtain⟨VF,zW,pp⟩:=ay (uh HC3) vD dA;have uY:=ab gX;have HC4:=ab VF;have mh:=ab ko;have dW:=ab ((uh dd).trans dA);clear gX VF ko dA;go_wp2_with fail
 refine(aR jh (by decide) ((uh mh).alloc _)).mono ?_;rintro e w5 ⟨rfl,pM,ep⟩;have Sk:=((am.refl F4 w4).alloc _).trans ep;obtain⟨b6,Ed,VN⟩:=ay (uh uY) Ec Sk;obtain⟨hc5,hm5,D8⟩:=ay (uh HC4) zW Sk;obtain⟨hd5,ho5,hp5⟩:=bq (uh mh).m ep;obtain⟨⟨a0,a1,a2,a3,a4⟩,g0,g1,g2,g3,g4⟩:=xZ b6;obtain⟨⟨d0,d1⟩,e0,e1⟩:=jd hc5;obtain⟨⟨x0,x1⟩,y0,y1⟩:=jd hd5;have Fi:=ab pM;have gN:=ab ((uh dW).trans Sk);clear b6 hc5 hd5 pM ep Sk;go_wp2_with fail
 refine bodyPost_ret (v:=.agg (Zl ws s).cells.toArray) (by simp[results,Tryz.results183,go_sem,a0,a1,a2,a3,a4,Zl,bt.cells,vM,tI]) rfl ⟨rfl,F4,?_,?_⟩
 .exact(((((uh Fi).setOther Ed _).setOther Ed _).setOther Ed _).setOther Ed _).setOther Ed _
 .exact(((((uh gN).setCell (zq1 (zq4 _)) _).setCell (zq1 (zq4 _)) _).setCell (zq1 (zq4 _)) _).setCell (zq1 (zq4 _)) _).setCell (zq1 (zq4 _)) _
end
def mm(ws:List ByteArray)(s:PS):PS:=if em ws yQ s then s.adv else if em ws Qm s then GI ws s.adv else kD ws (iJ ws (kD ws s))
def FD(ws:List ByteArray)(s:PS):bt :=
 if em ws yQ s then ⟨0,0,0,0,0⟩ else if em ws Qm s then Zl ws s.adv else ⟨ua ws (kD ws s),E5 ws s,E4 ws s,E5 ws (iJ ws (kD ws s)),E4 ws (iJ ws (kD ws s))⟩
def bh(l:List bt):List Value:=l.flatMap bt.cells
def pj(ws:List ByteArray):Nat->PS->List bt × PS
 |0,s=>([],s)
 |n+1,s=>if em ws fi s then (FD ws s.adv::(pj ws n (mm ws s.adv)).1,(pj ws n (mm ws s.adv)).2) else ([],s)
def foA(ws:List ByteArray)(s:PS):List bt:=FD ws s::(pj ws (ws.length+1) (mm ws s)).1
def F9(ws:List ByteArray)(s:PS):PS:=(pj ws (ws.length+1) (mm ws s)).2
section
variable {ws:List ByteArray} {s:PS}
theorem cI:s.pos<=s.adv.pos:=Nat.le_succ _
theorem bY(k:ByteArray):s.pos<=(bB ws k s).pos:=by unfold bB;split;exact cI;exact zq4 _
theorem oV:s.pos<=(cG ws s).pos:=by unfold cG;split;exact Nat.le_succ _;exact zq4 _
theorem gw:s.pos<=(dS ws s).pos:=by unfold dS;split;exact cI;exact oV
theorem rX:s.pos<=(kD ws s).pos:=by unfold kD;split;exact Nat.le_succ _;exact gw
theorem OP:s.pos<=(iJ ws s).pos:=by unfold iJ;split;exact cI;split;exact cI;exact bY _
theorem Tl:s.pos<=(GI ws s).pos:=by
 unfold GI tI vM;exact zq3 (zq3 (zq3 (zq3 (bY _) rX) (bY _)) rX) (bY _)
theorem Q2:s.pos<=(mm ws s).pos:=by
 unfold mm;split
 .exact cI
 .split
  .exact zq3 cI Tl
  .exact zq3 (zq3 rX OP) rX
end
section
variable {B:Nat} {WV:Value} {w:World} {P:Nat} {ws:List ByteArray} {s:PS} {F:List Nat} {wv vv hv nv:Value}
theorem Av(h:ee B WV w P ws s F):
  Calls prog 159 #[.pointer (some ⟨P,0,none⟩)] w λe w'=>e=.returned (.agg (FD ws s).cells.toArray)/\∃F',ee B WV w' P ws (mm ws s) F'/\am F w F' w':=by
 have HQ:=ab h;have HA:=λo=>ab (aB yQ (by decide) (h.alloc o));clear h;cases hb:em ws yQ s with
 |true =>
  have HK:Hid (FD ws s=⟨0,0,0,0,0⟩):=ab (if_pos hb);have HS:Hid (mm ws s=jR ws yQ s):=ab (by unfold mm jR;rw[if_pos hb,if_pos hb]);simp only[hb]at HA;clear hb;go_enter func159,ntmps159;go_wp2_with fail
  refine(uh (HA _)).mono ?_;rintro e w1 ⟨rfl,cV,bE⟩;obtain⟨aO,jg,uO⟩:=bq (uh HQ).m bE;obtain⟨⟨a0,a1,a2,a3,a4⟩,g0,g1,g2,g3,g4⟩:=xZ aO;have dy:=ab cV;have bC:=ab (((am.refl F w).alloc _).trans bE);clear aO cV bE;go_wp2_with fail
  refine bodyPost_ret (v:=.agg #[.int .i64 0,.int .i64 0,.int .i64 0,.int .i64 0,.int .i64 0]) (by simp[results,Tryz.results159,go_sem,a0,a1,a2,a3,a4]) rfl ⟨by rw[uh HK];rfl,F,?_,?_⟩
  .rw[uh HS];exact(((((uh dy).setOther jg _).setOther jg _).setOther jg _).setOther jg _).setOther jg _
  .exact(((((uh bC).setCell (zq1 (zq4 _)) _).setCell (zq1 (zq4 _)) _).setCell (zq1 (zq4 _)) _).setCell (zq1 (zq4 _)) _).setCell (zq1 (zq4 _)) _
 |false =>
  have qe:Hid (jR ws yQ s=s):=ab (if_neg (by simp[hb]));simp only[hb]at HA;cases ax:em ws Qm s with
  |true =>
   have HK:Hid (FD ws s=Zl ws s.adv):=ab (by unfold FD;rw[hb,ax];rfl);have HS:Hid (mm ws s=GI ws s.adv):=ab (by unfold mm;rw[hb,ax];rfl);have KL:Hid (jR ws Qm s=s.adv):=ab (if_pos ax);have bu:=ab ax;clear hb ax;go_enter func159,ntmps159;go_wp2_with fail
   refine(uh (HA _)).mono ?_;rintro e w1 ⟨rfl,cV,bE⟩;obtain⟨aO,jg,uO⟩:=bq (uh HQ).m bE;rw[uh qe]at cV;have cY:=ab aO;have bC:=ab (((am.refl F w).alloc _).trans bE);have jP:=aB Qm (by decide) cV;rw[uh bu,uh KL]at jP;replace jP:=ab jP
   clear aO cV bE;go_wp2_with fail
   refine(uh jP).mono ?_;rintro e w2 ⟨rfl,bT,bK⟩;obtain⟨ax,nE,uQ⟩:=ay (uh cY) jg bK;have bu:=ab ax;have db:=ab bT;have bz:=ab ((uh bC).trans bK);clear ax bT bK;go_wp2_with fail
   refine(NT (uh db)).mono ?_;rintro e w3 ⟨rfl,F3,eF,cd⟩;obtain⟨bF,uS,Nf⟩:=ay (uh bu) nE cd;obtain⟨⟨a0,a1,a2,a3,a4⟩,g0,g1,g2,g3,g4⟩:=xZ bF;have gI:=ab eF;have dd:=ab ((uh bz).trans cd);clear bF eF cd;obtain⟨k0,k1,k2,k3,k4,hat⟩:∃k0 k1 k2 k3 k4,Zl ws s.adv=⟨k0,k1,k2,k3,k4⟩:=⟨_,_,_,_,_,rfl⟩;rw[hat]at HK ⊢;clear hat;simp only[bt.cells];go_wp2_with fail
   refine bodyPost_ret (v:=.agg #[.int .i64 k0,.int .i64 k1,.int .i64 k2,.int .i64 k3,.int .i64 k4]) (by simp[results,Tryz.results159,go_sem,a0,a1,a2,a3,a4]) rfl ⟨by rw[uh HK];rfl,F3,?_,?_⟩
   .rw[uh HS];exact(((((uh gI).setOther uS _).setOther uS _).setOther uS _).setOther uS _).setOther uS _
   .exact(((((uh dd).setCell (zq1 (zq4 _)) _).setCell (zq1 (zq4 _)) _).setCell (zq1 (zq4 _)) _).setCell (zq1 (zq4 _)) _).setCell (zq1 (zq4 _)) _
  |false =>
   have HK:Hid (FD ws s=⟨ua ws (kD ws s),E5 ws s,E4 ws s,E5 ws (iJ ws (kD ws s)),E4 ws (iJ ws (kD ws s))⟩):=ab (by unfold FD;rw[hb,ax];rfl);have HS:Hid (mm ws s=kD ws (iJ ws (kD ws s))):=ab (by unfold mm;rw[hb,ax];rfl);have KL:Hid (jR ws Qm s=s):=ab (if_neg (by simp[ax]));have bu:=ab ax;clear hb ax;go_enter func159,ntmps159;go_wp2_with fail
   refine(uh (HA _)).mono ?_;rintro e w1 ⟨rfl,cV,bE⟩;obtain⟨aO,jg,uO⟩:=bq (uh HQ).m bE;rw[uh qe]at cV;have cY:=ab aO;have bC:=ab (((am.refl F w).alloc _).trans bE);have jP:=aB Qm (by decide) cV;rw[uh bu,uh KL]at jP;replace jP:=ab jP
   clear aO cV bE;go_wp2_with fail
   refine(uh jP).mono ?_;rintro e w2 ⟨rfl,bT,bK⟩;obtain⟨ax,nE,uQ⟩:=ay (uh cY) jg bK;have bu:=ab ax;have db:=ab bT;have bz:=ab ((uh bC).trans bK);clear ax bT bK;go_wp2_with fail
   refine(oT (uh db)).mono ?_;rintro e w3 ⟨rfl,F3,eF,cd⟩;obtain⟨bF,uS,Nf⟩:=ay (uh bu) nE cd;have mN:=ab bF;have gI:=ab eF;have dd:=ab ((uh bz).trans cd);clear bF eF cd;go_wp2_with fail
   refine(zo ((uh gI).alloc _)).mono ?_;rintro e w4 ⟨rfl,ko,dA⟩;obtain⟨gX,Ec,hl4⟩:=ay (uh mN) uS (((am.refl F3 w3).alloc _).trans dA);obtain⟨VF,zW,pp⟩:=bq (uh gI).m dA;have uY:=ab gX;have HC4:=ab VF;have mh:=ab ko;have dW:=ab ((uh dd).trans (((am.refl F3 w3).alloc _).trans dA));clear gX VF ko dA;go_wp2_with fail
   refine(oT (uh mh)).mono ?_;rintro e w5 ⟨rfl,F5,pM,ep⟩;obtain⟨b6,Ed,VN⟩:=ay (uh uY) Ec ep;obtain⟨hc5,hm5,D8⟩:=ay (uh HC4) zW ep;obtain⟨⟨a0,a1,a2,a3,a4⟩,g0,g1,g2,g3,g4⟩:=xZ b6;obtain⟨⟨d0,d1⟩,e0,e1⟩:=jd hc5;have Fi:=ab pM;have gN:=ab ((uh dW).trans ep);clear b6 hc5 pM ep;go_wp2_with fail
   refine bodyPost_ret (v:=.agg #[.int .i64 (ua ws (kD ws s)),.int .i64 (E5 ws s),.int .i64 (E4 ws s),.int .i64 (E5 ws (iJ ws (kD ws s))),.int .i64 (E4 ws (iJ ws (kD ws s)))]) (by simp[results,Tryz.results159,go_sem,cell?_alloc_past,VN,a0,a1,a2,a3,a4]) rfl ⟨by rw[uh HK];rfl,F5,?_,?_⟩
   .rw[uh HS];exact((((((uh Fi).setOther Ed _).setOther Ed _).setOther Ed _).setOther Ed _).setOther Ed _).alloc _
   .exact((((((uh gN).setCell (zq1 (zq4 _)) _).setCell (zq1 (zq4 _)) _).setCell (zq1 (zq4 _)) _).setCell (zq1 (zq4 _)) _).setCell (zq1 (zq4 _)) _).alloc _
end
structure Pr where
 k:Nat
 l:Nat
 r:Nat
def az:Pr:=⟨0,0,0⟩
structure CF where
 cl:List Nat
 ap:List Pr
 ow:List Pr
def ut(k i:Nat):Nat:=if k=1 then 1+i else if k=2 then 5+i else 0
def iG(c:List Nat)(a:bt):List Nat:=if a.k=1 then c.map (λx=>if x=c.getD (ut a.rk a.ri) 0 then c.getD (ut a.lk a.li) 0 else x) else c
def iY(al:List bt):List Nat:=al.foldl iG (range 13)
def gT(c:List Nat)(a:bt):Pr:=⟨a.k,c.getD (ut a.lk a.li) 0,c.getD (ut a.rk a.ri) 0⟩
def bL(al:List bt):CF:=⟨(iY al).take 5,(al.filter (λa=>a.k==2)).map (gT (iY al)),(al.filter (λa=>a.k==3||a.k==4)).map (gT (iY al))⟩
def dJ:List Pr->Nat->Option Nat
 |[],_=>none
 |p::r,c=>if p.l=c then some 0 else (dJ r c).map (·+1)
def qL:List Nat->List Pr->Bool
 |_,[]=>false
 |seen,p::r=>if p.l∈seen then true else qL (p.l::seen) r
def je(f:CF):Bool:=f.ap.any (λp=>p.l==p.r)||qL [f.cl.getD 0 0] f.ow
def qJ(f:CF)(a b:Nat):Bool:=((dJ f.ow a).isSome&&((dJ f.ow b).isSome||b==f.cl.getD 0 0))||((dJ f.ow b).isSome&&a==f.cl.getD 0 0)
def ew(f:CF)(a b:Nat):Bool:=if a=b then false else f.ap.any (λp=>(p.l==a&&p.r==b)||(p.l==b&&p.r==a))||qJ f a b
structure SS where
 bd:List (Option Nat)
 ot:List (Option Nat)
 un:Nat
 pl:List Bool
 st:Int
def SS.b(s:SS)(c:Nat):Option Nat:=s.bd.getD c none
def Ka(V T:CF)(s:SS):Bool:=T.ap.all (λp=>p.l != p.r&&(match s.b p.l,s.b p.r with|some a,some b=>ew V a b|_,_=>true))
def PY(T:CF)(s:SS):List Nat->Option Nat->Option Nat
 |[],o=>o
 |k::r,o=>if s.pl.getD k false=true then PY T s r o else if (s.b (T.ow.getD k az).l).isSome=true then some k else PY T s r (if o.isSome=true then o else some k)
def Xx(T:CF)(s:SS):Option Nat:=PY T s (range s.pl.length) none
def EM(W:SS->Nat->Nat->Nat->Bool × SS)(k left count:Nat):List Pr->SS->Bool × SS
 |[],s=>(false,{ s with bd:=s.bd.set left none })
 |p::r,s=>match W { s with bd:=s.bd.set left (some p.l) } k p.l count with
  |(true,s')=>(true,s')
  |(false,s')=>EM W k left count r s'
def xq(W:SS->Nat->Nat->Nat->Bool × SS)(V T:CF)(s:SS)(count:Nat):Bool × SS :=
 if T.ow.length=count then (decide (s.un=0)&&Ka V T s,s)
 else if s.un<T.ow.length-count then (false,s)
 else match Xx T s with
  |none=>(false,s)
  |some k=>match s.b (T.ow.getD k az).l with
   |some at_=>W s k at_ count
   |none=>EM W k (T.ow.getD k az).l count V.ow s
def DA(P:SS->Nat->Bool × SS)(T:CF)(s:SS)(k at_ count:Nat):Bool × SS :=
 if s.b (T.ow.getD k az).r≠none/\s.b (T.ow.getD k az).r≠some at_ then (false,s)
 else match P { s with bd:=s.bd.set (T.ow.getD k az).r (some at_),pl:=s.pl.set k true } (count+1) with
  |(true,s')=>(true,s')
  |(false,s')=>(false,{ s' with pl:=s'.pl.set k false,bd:=s'.bd.set (T.ow.getD k az).r (s.b (T.ow.getD k az).r) })
def wk(V T:CF):Nat->SS->Nat->Nat->Nat->Bool × SS
 |0,s,_,_,_=>(false,s)
 |m+1,s,k,at_,count =>
  if wrap64 (s.st-1)<0 then (false,{ s with st:=wrap64 (s.st-1) })
  else match dJ V.ow at_ with
   |none=>(false,{ s with st:=wrap64 (s.st-1) })
   |some i =>
    if s.ot.getD i none≠none then (false,{ s with st:=wrap64 (s.st-1) })
    else if (T.ow.getD k az).k≠4/\(V.ow.getD i az).k=4 then (false,{ s with st:=wrap64 (s.st-1) })
    else match DA (xq (wk V T m) V T) T { s with st:=wrap64 (s.st-1),ot:=s.ot.set i (some k),un:=s.un-1 } k (V.ow.getD i az).r count with
     |(true,s')=>(true,s')
     |(false,s2)=>match (if (T.ow.getD k az).k=4 then wk V T m s2 k (V.ow.getD i az).r count else (false,s2)) with
      |(true,s')=>(true,s')
      |(false,s3)=>(false,{ s3 with ot:=s3.ot.set i none,un:=s3.un+1 })
