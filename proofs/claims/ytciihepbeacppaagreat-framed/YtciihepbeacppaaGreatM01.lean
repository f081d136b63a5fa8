import Derived.Test.YtciihepbeacppaaGreatM00
import Derived.Deep.LoopGhost
set_option maxRecDepth 100000
set_option maxHeartbeats 0
namespace Go.Proofs.YtciihepbeacppaaGreat
open Tryz Go.RowKit List World Below
set_option linter.unusedVariables false
def dB(B:Nat)(WV:Value)(w:World)(P:Nat)(ws:List ByteArray)(s:PS)(F:List Nat)(wv vv hv nv:Value):Prop :=
  w.heap[P]?=some (.cells #[wv,.int .i64 s.pos,.bool s.failed,vv,hv,nv] 133 (0,0))/\(B<=P/\wv=WV) /\
  w.ownsRow B 9 1 wv ws.length (ws.map Value.string) /\
  w.ownsRow B 5 1 vv s.vars.length (bc s.vars) /\
  w.ownsRow B 5 1 hv s.hid.length (bc s.hid) /\
  w.ownsRow B 186 6 nv s.nodes.length (bq s.nodes) /\
  F=P::(wv.ownBlock.toList++(vv.ownBlock.toList++(hv.ownBlock.toList++nv.ownBlock.toList)))/\F.Nodup
section
variable {B:Nat} {WV:Value} {w:World} {P:Nat} {ws:List ByteArray} {s:PS} {F:List Nat} {wv vv hv nv:Value}
theorem lM.named(h:lM B WV w P ws s F):∃wv vv hv nv,dB B WV w P ws s F wv vv hv nv:=h
theorem dB.is(h:dB B WV w P ws s F wv vv hv nv):lM B WV w P ws s F:=⟨wv,vv,hv,nv,h⟩
theorem dB.of_eq{w':World}(h:dB B WV w P ws s F wv vv hv nv)(he:∀k∈F,w'.heap[k]?=w.heap[k]?):dB B WV w' P ws s F wv vv hv nv:=by
 obtain⟨hP,hB,h1,h2,h3,h4,hF,hN⟩:=h;have hm:∀k,k=P\/wv.ownBlock=some k\/vv.ownBlock=some k\/hv.ownBlock=some k\/nv.ownBlock=some k->k∈F:=by
  intro k hk;rw[hF];simpa using hk
 exact⟨by rw[he P (hm P (by simp))];exact hP,hB,ae h1 (λk hk=>he k (hm k (by simp[hk]))),ae h2 (λk hk=>he k (hm k (by simp[hk]))),
  ae h3 (λk hk=>he k (hm k (by simp[hk]))),ae h4 (λk hk=>he k (hm k (by simp[hk]))),hF,hN⟩
theorem dB.drewN(h:dB B WV w P ws s F wv vv hv nv)(n:Nat):dB B WV (w.drewN n) P ws s F wv vv hv nv:=h.of_eq (λ_ _=>rfl)
theorem dB.alloc(h:dB B WV w P ws s F wv vv hv nv)(o:Obj):dB B WV (w.alloc o) P ws s F wv vv hv nv:=h.of_eq (λk hk=>heap_alloc _ _ _ (h.is.mem k hk).2)
theorem dB.setPos(h:dB B WV w P ws s F wv vv hv nv)(n:Nat):dB B WV (w.setCell ⟨P,1,none⟩ (.int .i64 n)) P ws { s with pos:=n } F wv vv hv nv:=by
 obtain⟨hP,hB,h1,h2,h3,h4,hF,hN⟩:=h;have aL:∀k,wv.ownBlock=some k\/vv.ownBlock=some k\/hv.ownBlock=some k\/nv.ownBlock=some k->k≠P:=by
  rw[hF]at hN;rintro k hk rfl;exact(nodup_cons.1 hN).1 (by simpa using hk)
 have hk:∀k,wv.ownBlock=some k\/vv.ownBlock=some k\/hv.ownBlock=some k\/nv.ownBlock=some k->(w.setCell ⟨P,1,none⟩ (.int .i64 n)).heap[k]?=w.heap[k]? :=
  λk hk=>heap_setCell _ _ _ _ (aL k hk)
 exact⟨ye hP _,hB,ae h1 (λk h=>hk k (by simp[h])),ae h2 (λk h=>hk k (by simp[h])),ae h3 (λk h=>hk k (by simp[h])),ae h4 (λk h=>hk k (by simp[h])),hF,hN⟩
theorem dB.apart(h:dB B WV w P ws s F wv vv hv nv):(∀k,wv.ownBlock=some k\/vv.ownBlock=some k\/hv.ownBlock=some k\/nv.ownBlock=some k->k≠P) /\
  (∀k,vv.ownBlock=some k->wv.ownBlock≠some k/\hv.ownBlock≠some k/\nv.ownBlock≠some k)/\(∀k,hv.ownBlock=some k->wv.ownBlock≠some k/\vv.ownBlock≠some k/\nv.ownBlock≠some k) /\
  (∀k,nv.ownBlock=some k->wv.ownBlock≠some k/\vv.ownBlock≠some k/\hv.ownBlock≠some k):=by
 obtain⟨hP,hB,h1,h2,h3,h4,hF,hN⟩:=h;rw[hF]at hN;cases a:wv.ownBlock <;> cases b:vv.ownBlock <;> cases c:hv.ownBlock <;> cases d:nv.ownBlock <;> simp[a,b,c,d]at hN ⊢ <;> grind
theorem U6{P g:Nat}{a b c d:List Nat}(h:(P::(a++(b++(c++d)))).Nodup)(hg:g ∉ P::(a++(c++d))):(P::(a++([g]++(c++d)))).Nodup:=by
 simp only[nodup_cons,nodup_append,mem_append,mem_cons]at *;grind
theorem aba{P g:Nat}{a b c d:List Nat}(h:(P::(a++(b++(c++d)))).Nodup)(hg:g ∉ P::(a++(b++d))):(P::(a++(b++([g]++d)))).Nodup:=by
 simp only[nodup_cons,nodup_append,mem_append,mem_cons]at *;grind
theorem P3{P g:Nat}{a b c d:List Nat}(h:(P::(a++(b++(c++d)))).Nodup)(hg:g ∉ P::(a++(b++c))):(P::(a++(b++(c++[g])))).Nodup:=by
 simp only[nodup_cons,nodup_append,mem_append,mem_cons]at *;grind
theorem dB.pushVars {w3:World} {o:Obj} {g cap:Nat} (x:UInt8) (h:dB B WV w P ws s F wv vv hv nv) (hg:(w.alloc o).grownBy w3 vv.ownBlock)
  (aP:w3.ownsRow B 5 1 (.slice (some ⟨g,0,none⟩) (s.vars.length+1) cap) (s.vars.length+1) (bc s.vars++[.int .u8 (x.toNat:Int)]))
  (hb:some g=vv.ownBlock\/g=(w.alloc o).heap.size) :
  ∃F',lM B WV (w3.setCell ⟨P,3,none⟩ (.slice (some ⟨g,0,none⟩) (s.vars.length+1) cap)) P ws { s with vars:=s.vars++[x] } F'/\au F w F' (w3.setCell ⟨P,3,none⟩ (.slice (some ⟨g,0,none⟩) (s.vars.length+1) cap)):=by
 have eU:=h.apart;have j6:=h.is.mem;have nV:(w.alloc o).heap.size=w.heap.size+1:=by simp
 obtain⟨hP,hB,h1,h2,h3,h4,hF,hN⟩:=h;have yL:P<w.heap.size:=(j6 P (by rw[hF];simp)).2;have hgP:g≠P:=by
  rcases hb with hb|hb
  .exact eU.1 g (by simp[<-hb])
  .omega
 have hU:∀k,k<w.heap.size->vv.ownBlock≠some k->k≠P->(w3.setCell ⟨P,3,none⟩ (.slice (some ⟨g,0,none⟩) (s.vars.length+1) cap)).heap[k]?=w.heap[k]?:=by
  intro k hk aL hkP;rw[heap_setCell _ _ _ _ hkP,hg.block k (by omega) (λe=>aL e.symm),heap_alloc _ _ _ hk]
 have Kq:w3.heap[P]?=some (.cells #[wv,.int .i64 s.pos,.bool s.failed,vv,hv,nv] 133 (0,0)):=by
  rw[hg.block P (by omega) (λe=>(eU.1 P (by simp[<-e])) rfl),heap_alloc _ _ _ yL];exact hP
 have ar:∀k,wv.ownBlock=some k\/vv.ownBlock=some k\/hv.ownBlock=some k\/nv.ownBlock=some k->k<w.heap.size:=λk hk=>(j6 k (by rw[hF];simpa using zq1 hk)).2;have hgF:g∈F\/g=w.heap.size+1:=by
  rcases hb with hb|hb
  .left;rw[hF];simp[<-hb]
  .right;omega
 refine⟨P::(wv.ownBlock.toList++([g]++(hv.ownBlock.toList++nv.ownBlock.toList))),⟨wv,.slice (some ⟨g,0,none⟩) (s.vars.length+1) cap,hv,nv,ye Kq _,hB,?_,?_,?_,?_,rfl,?_⟩,⟨hg.os,hg.tape,hg.output,?_,?_,?_⟩⟩
 .exact ae h1 (λk hk=>hU k (ar k (by simp[hk])) (λe=>by have:=eU;grind) (λe=>(eU.1 k (by simp[hk])) e))
 .exact ae (iO aP (by simp) (by simp[bc])) (λk hk=>heap_setCell _ _ _ _ (by simp[Value.ownBlock]at hk;subst hk;exact hgP))
 .exact ae h3 (λk hk=>hU k (ar k (by simp[hk])) (λe=>by have:=eU;grind) (λe=>(eU.1 k (by simp[hk])) e))
 .exact ae h4 (λk hk=>hU k (ar k (by simp[hk])) (λe=>by have:=eU;grind) (λe=>(eU.1 k (by simp[hk])) e))
 .rw[hF]at hN;rcases hb with hb|hb
  .have e:vv.ownBlock.toList=[g]:=(by rw[<-hb];rfl);rw[e]at hN;exact hN
  .refine U6 hN ?_;intro hm;have:=ar g (by simpa using Or.resolve_left (mem_cons.1 hm) hgP |> λz=>(by grind));omega
 .have:=hg.size;simp[World.setCell];omega
 .intro k hk hkF;exact hU k hk (λe=>hkF (by rw[hF];simp[e])) (λe=>hkF (by rw[hF,e];simp))
 .intro k hk;rw[hF];rw[hF]at hgF;grind
theorem dB.pushHid {w3:World} {o:Obj} {g cap:Nat} (x:UInt8) (h:dB B WV w P ws s F wv vv hv nv) (hg:(w.alloc o).grownBy w3 hv.ownBlock)
  (aP:w3.ownsRow B 5 1 (.slice (some ⟨g,0,none⟩) (s.hid.length+1) cap) (s.hid.length+1) (bc s.hid++[.int .u8 (x.toNat:Int)]))
  (hb:some g=hv.ownBlock\/g=(w.alloc o).heap.size) :
  ∃F',lM B WV (w3.setCell ⟨P,4,none⟩ (.slice (some ⟨g,0,none⟩) (s.hid.length+1) cap)) P ws { s with hid:=s.hid++[x] } F'/\au F w F' (w3.setCell ⟨P,4,none⟩ (.slice (some ⟨g,0,none⟩) (s.hid.length+1) cap)):=by
 have eU:=h.apart;have j6:=h.is.mem;have nV:(w.alloc o).heap.size=w.heap.size+1:=by simp
 obtain⟨hP,hB,h1,h2,h3,h4,hF,hN⟩:=h;have yL:P<w.heap.size:=(j6 P (by rw[hF];simp)).2;have hgP:g≠P:=by
  rcases hb with hb|hb
  .exact eU.1 g (by simp[<-hb])
  .omega
 have hU:∀k,k<w.heap.size->hv.ownBlock≠some k->k≠P->(w3.setCell ⟨P,4,none⟩ (.slice (some ⟨g,0,none⟩) (s.hid.length+1) cap)).heap[k]?=w.heap[k]?:=by
  intro k hk aL hkP;rw[heap_setCell _ _ _ _ hkP,hg.block k (by omega) (λe=>aL e.symm),heap_alloc _ _ _ hk]
 have Kq:w3.heap[P]?=some (.cells #[wv,.int .i64 s.pos,.bool s.failed,vv,hv,nv] 133 (0,0)):=by
  rw[hg.block P (by omega) (λe=>(eU.1 P (by simp[<-e])) rfl),heap_alloc _ _ _ yL];exact hP
 have ar:∀k,wv.ownBlock=some k\/vv.ownBlock=some k\/hv.ownBlock=some k\/nv.ownBlock=some k->k<w.heap.size:=λk hk=>(j6 k (by rw[hF];simpa using zq1 hk)).2;have hgF:g∈F\/g=w.heap.size+1:=by
  rcases hb with hb|hb
  .left;rw[hF];simp[<-hb]
  .right;omega
 refine⟨P::(wv.ownBlock.toList++(vv.ownBlock.toList++([g]++nv.ownBlock.toList))),⟨wv,vv,.slice (some ⟨g,0,none⟩) (s.hid.length+1) cap,nv,ye Kq _,hB,?_,?_,?_,?_,rfl,?_⟩,⟨hg.os,hg.tape,hg.output,?_,?_,?_⟩⟩
 .exact ae h1 (λk hk=>hU k (ar k (by simp[hk])) (λe=>by have:=eU;grind) (λe=>(eU.1 k (by simp[hk])) e))
 .exact ae h2 (λk hk=>hU k (ar k (by simp[hk])) (λe=>by have:=eU;grind) (λe=>(eU.1 k (by simp[hk])) e))
 .exact ae (iO aP (by simp) (by simp[bc])) (λk hk=>heap_setCell _ _ _ _ (by simp[Value.ownBlock]at hk;subst hk;exact hgP))
 .exact ae h4 (λk hk=>hU k (ar k (by simp[hk])) (λe=>by have:=eU;grind) (λe=>(eU.1 k (by simp[hk])) e))
 .rw[hF]at hN;rcases hb with hb|hb
  .have e:hv.ownBlock.toList=[g]:=(by rw[<-hb];rfl);rw[e]at hN;exact hN
  .refine aba hN ?_;intro hm;have:=ar g (by simpa using Or.resolve_left (mem_cons.1 hm) hgP |> λz=>(by grind));omega
 .have:=hg.size;simp[World.setCell];omega
 .intro k hk hkF;exact hU k hk (λe=>hkF (by rw[hF];simp[e])) (λe=>hkF (by rw[hF,e];simp))
 .intro k hk;rw[hF];rw[hF]at hgF;grind
theorem dB.pushNodes {w3:World} {o:Obj} {g cap:Nat} (x:Nd) (h:dB B WV w P ws s F wv vv hv nv) (hg:(w.alloc o).grownBy w3 nv.ownBlock)
  (aP:w3.ownsRow B 186 6 (.slice (some ⟨g,0,none⟩) (s.nodes.length+1) cap) (s.nodes.length+1) (bq s.nodes++x.cells))
  (hb:some g=nv.ownBlock\/g=(w.alloc o).heap.size) :
  ∃F',lM B WV (w3.setCell ⟨P,5,none⟩ (.slice (some ⟨g,0,none⟩) (s.nodes.length+1) cap)) P ws { s with nodes:=s.nodes++[x] } F'/\au F w F' (w3.setCell ⟨P,5,none⟩ (.slice (some ⟨g,0,none⟩) (s.nodes.length+1) cap)):=by
 have eU:=h.apart;have j6:=h.is.mem;have nV:(w.alloc o).heap.size=w.heap.size+1:=by simp
 obtain⟨hP,hB,h1,h2,h3,h4,hF,hN⟩:=h;have yL:P<w.heap.size:=(j6 P (by rw[hF];simp)).2;have hgP:g≠P:=by
  rcases hb with hb|hb
  .exact eU.1 g (by simp[<-hb])
  .omega
 have hU:∀k,k<w.heap.size->nv.ownBlock≠some k->k≠P->(w3.setCell ⟨P,5,none⟩ (.slice (some ⟨g,0,none⟩) (s.nodes.length+1) cap)).heap[k]?=w.heap[k]?:=by
  intro k hk aL hkP;rw[heap_setCell _ _ _ _ hkP,hg.block k (by omega) (λe=>aL e.symm),heap_alloc _ _ _ hk]
 have Kq:w3.heap[P]?=some (.cells #[wv,.int .i64 s.pos,.bool s.failed,vv,hv,nv] 133 (0,0)):=by
  rw[hg.block P (by omega) (λe=>(eU.1 P (by simp[<-e])) rfl),heap_alloc _ _ _ yL];exact hP
 have ar:∀k,wv.ownBlock=some k\/vv.ownBlock=some k\/hv.ownBlock=some k\/nv.ownBlock=some k->k<w.heap.size:=λk hk=>(j6 k (by rw[hF];simpa using zq1 hk)).2;have hgF:g∈F\/g=w.heap.size+1:=by
  rcases hb with hb|hb
  .left;rw[hF];simp[<-hb]
  .right;omega
 refine⟨P::(wv.ownBlock.toList++(vv.ownBlock.toList++(hv.ownBlock.toList++[g]))),⟨wv,vv,hv,.slice (some ⟨g,0,none⟩) (s.nodes.length+1) cap,ye Kq _,hB,?_,?_,?_,?_,rfl,?_⟩,⟨hg.os,hg.tape,hg.output,?_,?_,?_⟩⟩
 .exact ae h1 (λk hk=>hU k (ar k (by simp[hk])) (λe=>by have:=eU;grind) (λe=>(eU.1 k (by simp[hk])) e))
 .exact ae h2 (λk hk=>hU k (ar k (by simp[hk])) (λe=>by have:=eU;grind) (λe=>(eU.1 k (by simp[hk])) e))
 .exact ae h3 (λk hk=>hU k (ar k (by simp[hk])) (λe=>by have:=eU;grind) (λe=>(eU.1 k (by simp[hk])) e))
 .exact ae (iO aP (by simp) (by simp[bq])) (λk hk=>heap_setCell _ _ _ _ (by simp[Value.ownBlock]at hk;subst hk;exact hgP))
 .rw[hF]at hN;rcases hb with hb|hb
  .have e:nv.ownBlock.toList=[g]:=(by rw[<-hb];rfl);rw[e]at hN;exact hN
  .refine P3 hN ?_;intro hm;have:=ar g (by simpa using Or.resolve_left (mem_cons.1 hm) hgP |> λz=>(by grind));omega
 .have:=hg.size;simp[World.setCell];omega
 .intro k hk hkF;exact hU k hk (λe=>hkF (by rw[hF];simp[e])) (λe=>hkF (by rw[hF,e];simp))
 .intro k hk;rw[hF];rw[hF]at hgF;grind
end
def BN(u:ByteArray):UInt8:=u.data.toList.headD 0
def put(l:List UInt8)(c:UInt8):List UInt8:=if plc l c=l.length then l++[c] else l
def mI(ws:List ByteArray)(s:PS):Nat:=if aF (pk ws s) then plc s.vars (BN (pk ws s)) else 0
def bK(ws:List ByteArray)(s:PS):PS:=if aF (pk ws s) then { s with pos:=s.pos+1,vars:=put s.vars (BN (pk ws s)) } else s.fail
theorem Aa{u:ByteArray}(h:0<u.size):BN u=u[0]:=by
 obtain⟨⟨l⟩⟩:=u;match l,h with
 |c::r,_=>rfl
theorem K5{u:ByteArray}(h:aF u=true):u.size=1:=by
 by_cases hs:u.size=1
 .exact hs
 .rw[qQ u hs]at h;cases h
theorem Qx(l:List UInt8)(c:UInt8):(put l c).length<=l.length+1:=by unfold put;split <;> simp
theorem infoNode:(prog.info? 186).map (λi=>(i.zero,i.size,i.bytes))=some (some (.agg #[.int .i64 0,.int .i64 0,.int .i64 0,.int .i64 0,.int .i64 0,.int .i64 0]),6,48):=by kernel_rfl
section
variable {B:Nat} {WV:Value} {w:World} {P:Nat} {ws:List ByteArray} {s:PS} {F:List Nat} {wv vv hv nv:Value}
theorem DW.va(h:DW ws s)(hp:s.pos<ws.length)(c:UInt8):DW ws { s with pos:=s.pos+1,vars:=put s.vars c }:=by
 obtain⟨a,b,d,e⟩:=h;have:=Qx s.vars c;simp only[DW];omega
theorem dB.readsV(h:dB B WV w P ws s F wv vv hv nv):w.cell? ⟨P,1,none⟩=some (.int .i64 s.pos)/\w.cell? ⟨P,2,none⟩=some (.bool s.failed)/\w.cell? ⟨P,3,none⟩=some vv/\w.cell? ⟨P,4,none⟩=some hv/\w.cell? ⟨P,5,none⟩=some nv/\(∀j,w.frozen? ⟨P,j,none⟩=false):=by
 obtain⟨hP,_⟩:=h;obtain⟨⟨c0,c1,c2,c3,c4,c5⟩,fz⟩:=jy hP;exact⟨c1,c2,c3,c4,c5,fz⟩
theorem sl{e:TypeId}{v:Value}{sz n:Nat}{xs:List Value}(h:w.ownsRow B e sz v n xs)(k:Nat)(o:Obj):((w.drewN k).alloc o).ownsRow B e sz v n xs:=ownsRow.alloc (w:=w.drewN k) h o
theorem Qd(w:World)(k:Nat)(x:Value)(T:TypeId):∀(j:Nat) (u:Value),[x][j]?=some u->((w.drewN k).alloc (.cells #[x] T)).cell? ((⟨w.heap.size,0,none⟩:Addr).add j)=some u:=AP (w.drewN k) x T
theorem v9(n:Int):∀u∈[Value.int .u8 n],u.oneCell'=true:=by intro u hu;simp at hu;subst hu;rfl
theorem yT{B:Nat}(h:B<=w.heap.size)(k:Nat)(o:Obj):B<=((w.drewN k).alloc o).heap.size:=by simp;omega
theorem sJ{w2:World}{o:Obj}{row:Option Nat}{k:Nat}(hg:((w.drewN k).alloc o).grownBy w2 row)(hP:P<w.heap.size)(aL:row≠some P):w2.heap[P]?=w.heap[P]?:=by
 rw[hg.block P (by simp;omega) (λe=>aL e.symm)];exact heap_alloc (w.drewN k) _ _ hP
theorem il{w2:World}{o:Obj}{row:Option Nat}{k:Nat}(hg:((w.drewN k).alloc o).grownBy w2 row)(hP:P<w.heap.size)(aL:row≠some P)(j:Nat){v:Value}(h:w.cell? ⟨P,j,none⟩=some v):w2.cell? ⟨P,j,none⟩=some v :=
 (cell?_of_block (a:=⟨P,j,none⟩) (sJ hg hP aL)).trans h
theorem eT{w2:World}{o:Obj}{row:Option Nat}{k:Nat}(hg:((w.drewN k).alloc o).grownBy w2 row)(hP:P<w.heap.size)(aL:row≠some P)(j:Nat){b:Bool}(h:w.frozen? ⟨P,j,none⟩=b):w2.frozen? ⟨P,j,none⟩=b :=
 (World.frozen?_of_block (a:=⟨P,j,none⟩) (sJ hg hP aL)).trans h
theorem ku{n j:Nat}{v:Value}{l:List UInt8}{c:UInt8}(hj:j=plc l c)(h:w.ownsRow B 5 1 v l.length (bc l))(hl:l.length<=20000):
  Calls prog 212 #[v,.int .u8 (c.toNat:Int)] (w.drewN n) λe w''=>e=.returned (.int .i64 j)/\∃m,w''=w.drewN m:=by
 subst hj;exact Calls.quiet_of_same (Ll (B:=B) (w:=w.drewN n) c h hl)
theorem fe(h:eO B WV w P ws s F):
  Calls prog 215 #[.pointer (some ⟨P,0,none⟩)] w λe w'=>e=.returned (.int .i64 (mI ws s))/\∃F',eO B WV w' P ws (bK ws s) F'/\au F w F' w':=by
 obtain⟨i0,hi,gX,fK,f9⟩:=info_parts infoByte;have HQ:=ab h;have HK:=ab (lx h);obtain⟨wv,vv,hv,nv,ei⟩:=h.m.named;obtain⟨hl,hp,FO,hhl⟩:=h.f;clear h;obtain⟨u,hu⟩:∃u,u=pk ws s:=⟨_,rfl⟩;have HU:=ab hu;rw[<-hu]at HK;clear hu;cases iB:aF u with
 |false =>
  have HI:Hid (mI ws s=0):=ab (by unfold mI;rw[<-uh HU,iB];rfl);have HS:Hid (bK ws s=s.fail):=ab (by unfold bK;rw[<-uh HU,iB];rfl);obtain⟨c1,c2,c3,c4,c5,fz⟩:=ei.readsV;have f2:=fz 2;clear c1 c3 c4 c5 fz ei;go_enter func215,ntmps215;go_wp2_with (first|(go_at_call 160;refine(uh HK).mono ?_;rintro e w' ⟨rfl,n,rfl⟩)|(go_at_call 248;refine(m9 u _).mono ?_;rintro e w' ⟨rfl,rfl⟩))
  go_ret;exact⟨br (by rw[uh HI];rfl),F,⟨by rw[uh HS];exact((uh HQ).m.drewN n).setFailed true,by rw[uh HS];exact(uh HQ).f⟩,((au.refl F w).drewN n).setCell (zq0 (uh HQ).m.memP) _⟩
 |true =>
  have hus:0<u.size:=by rw[K5 iB];omega
  have HI:Hid (mI ws s=plc s.vars u[0]):=ab (by unfold mI;rw[<-uh HU,iB,if_pos rfl,Aa hus]);have HS:Hid (bK ws s={ s with pos:=s.pos+1,vars:=put s.vars u[0] }):=ab (by unfold bK;rw[<-uh HU,iB,if_pos rfl,Aa hus]);have ar:s.pos<ws.length:=(yZ (by rw[<-uh HU];omega)).2;have aau:=wg s.vars u[0];obtain⟨j,hj⟩:∃j,j=plc s.vars u[0]:=⟨_,rfl⟩;have HJ:=ab hj;rw[<-hj]at aau;clear hj;obtain⟨ao,cap,rfl,hm,_⟩:=lU ei.2.2.2.1;obtain⟨c1,c2,c3,c4,c5,fz⟩:=ei.readsV;have f1:=fz 1;have xJ:=ab ei;clear fz c2 c3 c4 c5 ei;go_enter func215,ntmps215;go_wp2_with (first|(go_at_call 160;refine(uh HK).mono ?_;rintro e w' ⟨rfl,n,rfl⟩)|(go_at_call 248;refine(m9 u _).mono ?_;rintro e w' ⟨rfl,rfl⟩))
  have r7:=((uh xJ).drewN n).setPos (s.pos+1);have oT:au F w F ((w.drewN n).setCell ⟨P,1,none⟩ (.int .i64 ((s.pos:Int)+1))):=((au.refl F w).drewN n).setCell (zq0 (uh HQ).m.memP) _;rw[show(((s.pos+1:Nat)):Int)=(s.pos:Int)+1 by omega]at r7;generalize (w.drewN n).setCell ⟨P,1,none⟩ (.int .i64 ((s.pos:Int)+1))=w1 at r7 oT ⊢;clear c1 f1;obtain⟨_,_,c3,_,_,fz⟩:=r7.readsV;have f3:=fz 3;have bE:=r7.2.2.2.1;have HR:=ab bE;have yk:=ab r7;have db:=ab oT;clear fz r7 oT bE;have yL:P<w1.heap.size:=((uh yk).is.mem P (uh yk).is.memP).2;have TH:B<=w1.heap.size:=by have:=((uh yk).is.mem P (uh yk).is.memP).1;omega
  have D3:Hid ((Value.slice ao s.vars.length cap).ownBlock≠some P):=ab (λe=>(uh yk).apart.1 P (by simp[e]) rfl);by_cases f7:j=s.vars.length
  .have hjt:((j:Int)==(s.vars.length:Int))=true:=(by simp[f7]);have Yf:=ab f7;clear f7;have c3a:∀(k:Nat) (o:Obj),((w1.drewN k).alloc o).cell? ⟨P,3,none⟩=some (.slice ao s.vars.length cap):=λk o=>(cell?_of_block (a:=⟨P,3,none⟩) (heap_alloc (w1.drewN k) o P yL)).trans c3;go_quiet ((go_at_call 212;exact ku (uh HJ) (uh HR) (by omega)))
   go_wp2_with fail
   go_region_law (refine ju _ rfl (.tmp 38) (.tmp 41) 101 rfl B 5 i0 (.int .u8 0) 1 1 underlying101 hi gX fK f9 rfl (by decide) (.slice ao s.vars.length cap) s.vars.length (bc s.vars) (by simp[Act.eval]) (sl (uh HR) _ _) ⟨w1.heap.size,0,none⟩ 1 [.int .u8 (u[0].toNat:Int)] (by simp[Act.eval]) rfl (Qd _ _ _ _) (v9 _) (by omega) (by omega) (yT TH _ _) ?_;intro g2 cap2 w2 bC aM dO;have c3':=il aM yL (uh D3) 3 c3;have f3':=eT aM yL (uh D3) 3 f3;have HO2:=ab bC;have HG2:=ab aM;have eu:=ab dO;clear bC aM dO)
   all_goals
    go_wp2_with fail
    go_ret;obtain⟨F',Zv,ZI⟩:=dB.pushVars u[0] ((uh yk).drewN _) (uh HG2) (uh HO2) (uh eu);refine⟨br (by rw[uh HI,<-uh HJ]),F',⟨?_,?_⟩,((uh db).drewN _).trans ZI⟩
    .rw[uh HS];unfold put;rw[if_pos (by rw[<-uh HJ];exact uh Yf)];exact Zv
    .rw[uh HS];exact(uh HQ).f.va ar _
  .have hjt:((j:Int)==(s.vars.length:Int))=false:=(by simp;omega);have Yf:=ab f7;clear f7;go_quiet ((go_at_call 212;exact ku (uh HJ) (uh HR) (by omega)))
   go_wp2_with fail
   go_ret;refine⟨br (by rw[uh HI,<-uh HJ]),F,⟨?_,?_⟩,(uh db).drewN _⟩
   .rw[uh HS];unfold put;rw[if_neg (by rw[<-uh HJ];exact uh Yf)];exact(uh yk).is.drewN _
   .rw[uh HS];exact(uh HQ).f.va ar _
end
def j8:ByteArray:=⟨#[110,105,108]⟩
def dI(ws:List ByteArray)(s:PS):Nat:=if bR ws j8 s then 0 else 1
def eM(ws:List ByteArray)(s:PS):Nat:=if bR ws j8 s then 0 else mI ws s
def ce(ws:List ByteArray)(s:PS):PS:=if bR ws j8 s then s.adv else bK ws s
section
variable {B:Nat} {WV:Value} {w:World} {P:Nat} {ws:List ByteArray} {s:PS} {F:List Nat}
theorem bN{w1:World}{F':List Nat}{xs:Array Value}{T:TypeId}(h0:lM B WV w P ws s F)(hS:au F (w.alloc (.cells xs T)) F' w1):
  w1.heap[w.heap.size]?=some (.cells xs T (0,0))/\w.heap.size ∉ F'/\w.heap.size<w1.heap.size:=by
 have hn:w.heap.size ∉ F:=λhm=>by have:=(h0.mem _ hm).2;omega
 refine⟨?_,?_,?_⟩
 .rw[hS.block _ (by simp) hn];exact heap_alloc_new w _
 .intro hm;rcases hS.foot _ hm with h|h
  .exact hn h
  .simp at h;omega
 .have:=hS.size;simp at this;omega
theorem aA{w0 w1:World}{F':List Nat}{r:Nat}{o:Obj}(hr:w0.heap[r]?=some o)(hn:r ∉ F)(hS:au F w0 F' w1):w1.heap[r]?=some o/\r ∉ F'/\r<w1.heap.size:=by
 have hl:=(Array.getElem?_eq_some_iff.1 hr).1;refine⟨?_,?_,?_⟩
 .rw[hS.block _ hl hn];exact hr
 .intro hm;rcases hS.foot _ hm with h|h
  .exact hn h
  .omega
 .have:=hS.size;omega
theorem kD{r:Nat}{a b:Value}{T:TypeId}(h:w.heap[r]?=some (.cells #[a,b] T (0,0))):(w.cell? ⟨r,0,none⟩=some a/\w.cell? ⟨r,1,none⟩=some b)/\w.frozen? ⟨r,0,none⟩=false/\w.frozen? ⟨r,1,none⟩=false:=by
 refine⟨⟨?_,?_⟩,?_,?_⟩ <;> simp[World.cell?,World.frozen?,h]
theorem eO.alloc(h:eO B WV w P ws s F)(o:Obj):eO B WV (w.alloc o) P ws s F:=⟨h.m.alloc o,h.f⟩
theorem eO.setOther(h:eO B WV w P ws s F){p:Addr}(hp:p.block ∉ F)(u:Value):eO B WV (w.setCell p u) P ws s F:=⟨h.m.setOther hp u,h.f⟩
theorem ip(h:eO B WV w P ws s F):
  Calls prog 213 #[.pointer (some ⟨P,0,none⟩)] w λe w'=>e=.returned (.agg #[.int .i64 (dI ws s),.int .i64 (eM ws s)])/\∃F',eO B WV w' P ws (ce ws s) F'/\au F w F' w':=by
 have HQ:=ab h;have HA:=λo=>ab (aC j8 (by decide) (h.alloc o));clear h;cases hb:bR ws j8 s with
 |true =>
  have HK:Hid (dI ws s=0):=ab (if_pos hb);have HI:Hid (eM ws s=0):=ab (if_pos hb);have HS:Hid (ce ws s=lO ws j8 s):=ab (by unfold ce lO;rw[if_pos hb,if_pos hb]);simp only[hb]at HA;clear hb;go_enter func213,ntmps213;go_wp2_with (go_at_call 158;refine(uh (HA _)).mono ?_;rintro e w' ⟨rfl,hI,hS⟩;obtain⟨hb,hn,hl⟩:=bN (uh HQ).m hS;obtain⟨⟨d0,d1⟩,e0,e1⟩:=kD hb;have d7:=ab hI;have cS:=ab hS;clear hI hS hb)
  refine bodyPost_ret (v:=.agg #[.int .i64 0,.int .i64 0]) (by simp[results,Tryz.results213,go_sem,d0,d1]) rfl ⟨by rw[uh HK,uh HI];rfl,F,?_,?_⟩
  .rw[uh HS];exact((uh d7).setOther hn _).setOther hn _
  .exact((((au.refl F w).alloc _).trans (uh cS)).setCell (zq1 (zq4 _)) _).setCell (zq1 (zq4 _)) _
 |false =>
  have HK:Hid (dI ws s=1):=ab (if_neg (by simp[hb]));have HI:Hid (eM ws s=mI ws s):=ab (if_neg (by simp[hb]));have HS:Hid (ce ws s=bK ws s):=ab (if_neg (by simp[hb]));have sF:Hid (lO ws j8 s=s):=ab (if_neg (by simp[hb]));simp only[hb]at HA;clear hb;go_enter func213,ntmps213;go_wp2_with (go_at_call 158;refine(uh (HA _)).mono ?_;rintro e w' ⟨rfl,hI,hS⟩;obtain⟨hb,hn,hl⟩:=bN (uh HQ).m hS;rw[uh sF]at hI;have d7:=ab hI;have cS:=ab hS;have HB:=ab hb;clear hI hS hb)
  refine(fe (uh d7)).mono ?_;rintro e w2 ⟨rfl,F',fI,cB⟩;obtain⟨du,sQ,O1⟩:=aA (uh HB) hn cB;obtain⟨⟨d0,d1⟩,e0,e1⟩:=kD du;have jb:=ab fI;have gu:=ab cB;clear fI cB du;go_wp2_with fail
  refine bodyPost_ret (v:=.agg #[.int .i64 1,.int .i64 (mI ws s)]) (by simp[results,Tryz.results213,go_sem,d0,d1]) rfl ⟨by rw[uh HK,uh HI];rfl,F',?_,?_⟩
  .rw[uh HS];exact((uh jb).setOther sQ _).setOther sQ _
  .exact(((((au.refl F w).alloc _).trans (uh cS)).trans (uh gu)).setCell (zq1 (zq4 _)) _).setCell (zq1 (zq4 _)) _
end
def tK(ws:List ByteArray)(s:PS):Nat:=if kW (pk ws s) then 2 else dI ws s
def tJ(ws:List ByteArray)(s:PS):Nat:=if kW (pk ws s) then plc s.hid (BN (pk ws s)) else eM ws s
def fA(ws:List ByteArray)(s:PS):PS:=if kW (pk ws s) then { s with pos:=s.pos+1,hid:=put s.hid (BN (pk ws s)) } else ce ws s
theorem Re{u:ByteArray}(h:kW u=true):u.size=1:=by
 by_cases hs:u.size=1
 .exact hs
 .rw[JB u hs]at h;cases h
section
variable {B:Nat} {WV:Value} {w:World} {P:Nat} {ws:List ByteArray} {s:PS} {F:List Nat} {wv vv hv nv:Value}
theorem DW.te(h:DW ws s)(hp:s.pos<ws.length)(c:UInt8):DW ws { s with pos:=s.pos+1,hid:=put s.hid c }:=by
 obtain⟨a,b,d,e⟩:=h;have:=Qx s.hid c;simp only[DW];omega
theorem rg(h:eO B WV w P ws s F):
  Calls prog 184 #[.pointer (some ⟨P,0,none⟩)] w λe w'=>e=.returned (.agg #[.int .i64 (tK ws s),.int .i64 (tJ ws s)])/\∃F',eO B WV w' P ws (fA ws s) F'/\au F w F' w':=by
 obtain⟨i0,hi,gX,fK,f9⟩:=info_parts infoByte;have HQ:=ab h;obtain⟨w0,mt⟩:∃w0,w0=w.alloc (.cells #[.int .i64 0,.int .i64 0] 184):=⟨_,rfl⟩;have h0:eO B WV w0 P ws s F:=by rw[mt];exact h.alloc _
 have Yl:Hid (au F w F w0):=ab (by rw[mt];exact(au.refl F w).alloc _);have JG:Hid (w0.heap[w.heap.size]?=some (.cells #[.int .i64 0,.int .i64 0] 184 (0,0))):=ab (by rw[mt];exact heap_alloc_new w _);have HN0:Hid (w.heap.size ∉ F):=ab (λhm=>by have:=(h.m.mem _ hm).2;omega);have Yr:=ab mt;clear mt;have HQ0:=ab h0;have HK:=ab (lx h0);obtain⟨wv,vv,hv,nv,ei⟩:=h0.m.named;obtain⟨hl,hp,FO,hhl⟩:=h.f;clear h h0;obtain⟨u,hu⟩:∃u,u=pk ws s:=⟨_,rfl⟩;have HU:=ab hu;rw[<-hu]at HK;clear hu;cases iB:kW u with
 |false =>
  have HIK:Hid (tK ws s=dI ws s):=ab (by unfold tK;rw[<-uh HU,iB];rfl);have HII:Hid (tJ ws s=eM ws s):=ab (by unfold tJ;rw[<-uh HU,iB];rfl);have HS:Hid (fA ws s=ce ws s):=ab (by unfold fA;rw[<-uh HU,iB];rfl);clear ei;go_enter func184,ntmps184;go_wp2_with (first|(rw[<-uh Yr];go_at_call 160;refine(uh HK).mono ?_;rintro e w' ⟨rfl,n,rfl⟩)|(go_at_call 211;refine(qG u _).mono ?_;rintro e w' ⟨rfl,rfl⟩))
  refine(ip (w:=w0.drewN n) ⟨(uh HQ0).m.drewN n,(uh HQ0).f⟩).mono ?_;rintro e w2 ⟨rfl,F',fI,cB⟩;obtain⟨du,sQ,O1⟩:=aA (w0:=w0.drewN n) (uh JG) (uh HN0) cB;obtain⟨⟨d0,d1⟩,e0,e1⟩:=kD du;have jb:=ab fI;have gu:=ab cB;clear fI cB du;go_wp2_with fail
  refine bodyPost_ret (v:=.agg #[.int .i64 (dI ws s),.int .i64 (eM ws s)]) (by simp[results,Tryz.results184,go_sem,d0,d1]) rfl ⟨by rw[uh HIK,uh HII],F',?_,?_⟩
  .rw[uh HS];exact((uh jb).setOther sQ _).setOther sQ _
  .exact((((uh Yl).drewN n).trans (uh gu)).setCell (zq1 (zq4 _)) _).setCell (zq1 (zq4 _)) _
 |true =>
  have hus:0<u.size:=by rw[Re iB];omega
  have HIK:Hid (tK ws s=2):=ab (by unfold tK;rw[<-uh HU,iB,if_pos rfl]);have HI:Hid (tJ ws s=plc s.hid u[0]):=ab (by unfold tJ;rw[<-uh HU,iB,if_pos rfl,Aa hus]);have HS:Hid (fA ws s={ s with pos:=s.pos+1,hid:=put s.hid u[0] }):=ab (by unfold fA;rw[<-uh HU,iB,if_pos rfl,Aa hus]);have ar:s.pos<ws.length:=(yZ (by rw[<-uh HU];omega)).2;have aau:=wg s.hid u[0];obtain⟨j,hj⟩:∃j,j=plc s.hid u[0]:=⟨_,rfl⟩;have HJ:=ab hj;rw[<-hj]at aau;clear hj;obtain⟨ao,cap,rfl,hm,_⟩:=lU ei.2.2.2.2.1;obtain⟨c1,c2,c3,c4,c5,fz⟩:=ei.readsV;have f1:=fz 1;have xJ:=ab ei;clear fz c2 c3 c4 c5 ei;go_enter func184,ntmps184;go_wp2_with (first|(rw[<-uh Yr];go_at_call 160;refine(uh HK).mono ?_;rintro e w' ⟨rfl,n,rfl⟩)|(go_at_call 211;refine(qG u _).mono ?_;rintro e w' ⟨rfl,rfl⟩))
  have r7:=((uh xJ).drewN n).setPos (s.pos+1);have oT:au F w0 F ((w0.drewN n).setCell ⟨P,1,none⟩ (.int .i64 ((s.pos:Int)+1))):=((au.refl F w0).drewN n).setCell (zq0 (uh HQ).m.memP) _;rw[show(((s.pos+1:Nat)):Int)=(s.pos:Int)+1 by omega]at r7;generalize (w0.drewN n).setCell ⟨P,1,none⟩ (.int .i64 ((s.pos:Int)+1))=w1 at r7 oT ⊢;clear c1 f1;obtain⟨bH,j7,xB⟩:=aA (uh JG) (uh HN0) oT;have fU:=ab bH;clear bH;obtain⟨_,_,_,c4,_,fz⟩:=r7.readsV;have f4:=fz 4;have bE:=r7.2.2.2.2.1;have HR:=ab bE;have yk:=ab r7;have db:=ab oT;clear fz r7 oT bE;have yL:P<w1.heap.size:=((uh yk).is.mem P (uh yk).is.memP).2;have TH:B<=w1.heap.size:=by have:=((uh yk).is.mem P (uh yk).is.memP).1;omega
  have D3:Hid ((Value.slice ao s.hid.length cap).ownBlock≠some P):=ab (λe=>(uh yk).apart.1 P (by simp[e]) rfl);by_cases f7:j=s.hid.length
  .have hjt:((j:Int)==(s.hid.length:Int))=true:=(by simp[f7]);have Yf:=ab f7;clear f7;have c4a:∀(k:Nat) (o:Obj),((w1.drewN k).alloc o).cell? ⟨P,4,none⟩=some (.slice ao s.hid.length cap):=λk o=>(cell?_of_block (a:=⟨P,4,none⟩) (heap_alloc (w1.drewN k) o P yL)).trans c4;go_quiet ((go_at_call 212;exact ku (uh HJ) (uh HR) (by omega)))
   go_wp2_with fail
   go_region_law (refine ju _ rfl (.tmp 34) (.tmp 37) 101 rfl B 5 i0 (.int .u8 0) 1 1 underlying101 hi gX fK f9 rfl (by decide) (.slice ao s.hid.length cap) s.hid.length (bc s.hid) (by simp[Act.eval]) (sl (uh HR) _ _) ⟨w1.heap.size,0,none⟩ 1 [.int .u8 (u[0].toNat:Int)] (by simp[Act.eval]) rfl (Qd _ _ _ _) (v9 _) (by omega) (by omega) (yT TH _ _) ?_;intro g2 cap2 w2 bC aM dO;have c4':=il aM yL (uh D3) 4 c4;have f4':=eT aM yL (uh D3) 4 f4;obtain⟨F',Zv,ZI⟩:=dB.pushHid u[0] ((uh yk).drewN _) aM bC dO;have xd:=ab Zv;have HS':=ab ZI;clear bC aM dO Zv ZI)
   all_goals
    obtain⟨du,sQ,O1⟩:=aA (w0:=w1.drewN _) (uh fU) j7 (uh HS');generalize Iq:World.setCell _ (⟨P,4,none⟩:Addr) _=w3 at xd HS' du O1 ⊢;obtain⟨⟨d0,d1⟩,e0,e1⟩:=kD du;clear du Iq;go_wp2_with fail
    refine bodyPost_ret (v:=.agg #[.int .i64 2,.int .i64 j]) (by simp[results,Tryz.results184,go_sem,d0,d1]) rfl ⟨by rw[uh HIK,uh HI,<-uh HJ];rfl,F',⟨?_,?_⟩,?_⟩
    .rw[uh HS];unfold put;rw[if_pos (by rw[<-uh HJ];exact uh Yf)];exact((uh xd).setOther sQ _).setOther sQ _
    .rw[uh HS];exact(uh HQ).f.te ar _
    .exact((((uh Yl).trans ((uh db).drewN _)).trans (uh HS')).setCell (zq1 (zq4 _)) _).setCell (zq1 (zq4 _)) _
  .have hjt:((j:Int)==(s.hid.length:Int))=false:=(by simp;omega);have Yf:=ab f7;clear f7;obtain⟨⟨d0,d1⟩,e0,e1⟩:=kD (uh fU);go_quiet ((go_at_call 212;exact ku (uh HJ) (uh HR) (by omega)))
   go_wp2_with fail
   refine bodyPost_ret (v:=.agg #[.int .i64 2,.int .i64 j]) (by simp[results,Tryz.results184,go_sem,d0,d1]) rfl ⟨by rw[uh HIK,uh HI,<-uh HJ];rfl,F,⟨?_,?_⟩,?_⟩
   .rw[uh HS];unfold put;rw[if_neg (by rw[<-uh HJ];exact uh Yf)];exact(((uh yk).is.drewN _).setOther j7 _).setOther j7 _
   .rw[uh HS];exact(uh HQ).f.te ar _
   .exact((((uh Yl).trans (uh db)).drewN _).setCell (zq1 (zq4 _)) _).setCell (zq1 (zq4 _)) _
end
def gR:ByteArray:=⟨#[61]⟩
def sU:ByteArray:=⟨#[33,61]⟩
def XD:ByteArray:=⟨#[45,62]⟩
def gb:ByteArray:=⟨#[40]⟩
def ni:ByteArray:=⟨#[44]⟩
def iY:ByteArray:=⟨#[41]⟩
def pN:ByteArray:=⟨#[101,109,112]⟩
def Ix:ByteArray:=⟨#[108,115]⟩
def dq:ByteArray:=⟨#[42]⟩
def jS(ws:List ByteArray)(s:PS):Nat:=if bR ws gR s then 1 else if bR ws sU s then 2 else 3
def eY(ws:List ByteArray)(s:PS):PS:=if bR ws gR s then s.adv else if bR ws sU s then s.adv else aG ws XD s
structure cn where
 k:Nat
 lk:Nat
 li:Nat
 rk:Nat
 ri:Nat
def cn.cells(a:cn):List Value:=[.int .i64 a.k,.int .i64 a.lk,.int .i64 a.li,.int .i64 a.rk,.int .i64 a.ri]
section
variable {B:Nat} {WV:Value} {w:World} {P:Nat} {ws:List ByteArray} {s:PS} {F:List Nat} {wv vv hv nv:Value}
theorem Bd(h:eO B WV w P ws s F):
  Calls prog 185 #[.pointer (some ⟨P,0,none⟩)] w λe w'=>e=.returned (.int .i64 (jS ws s))/\eO B WV w' P ws (eY ws s) F/\au F w F w':=by
 have HQ:=ab h;have HA:=ab (aC gR (by decide) h);clear h;cases hb:bR ws gR s with
 |true =>
  have HK:Hid (jS ws s=1):=ab (if_pos hb);have HS:Hid (eY ws s=lO ws gR s):=ab (by unfold eY lO;rw[if_pos hb,if_pos hb]);simp only[hb]at HA;clear hb;go_enter func185,ntmps185;go_wp2_with (go_at_call 158;refine(uh HA).mono ?_;rintro e w' ⟨rfl,hI,hS⟩)
  go_ret;exact⟨br (by rw[uh HK];rfl),by rw[uh HS];exact hI,hS⟩
 |false =>
  have sF:Hid (lO ws gR s=s):=ab (if_neg (by simp[hb]));simp only[hb]at HA;cases aU:bR ws sU s with
  |true =>
   have HK:Hid (jS ws s=2):=ab (by unfold jS;rw[hb,aU];rfl);have HS:Hid (eY ws s=lO ws sU s):=ab (by unfold eY lO;rw[hb,aU];rfl);have eu:=ab aU;clear hb aU;go_enter func185,ntmps185;go_wp2_with fail
   refine(uh HA).mono ?_;rintro e w1 ⟨rfl,hI,hS⟩;rw[uh sF]at hI;have kX:=aC sU (by decide) hI;rw[uh eu]at kX;have kX:=ab kX;clear hI;have cD:=ab hS;clear hS;go_wp2_with fail
   refine(uh kX).mono ?_;rintro e w2 ⟨rfl,cg,bS⟩;go_wp2_with fail
   go_ret;exact⟨br (by rw[uh HK];rfl),by rw[uh HS];exact cg,(uh cD).trans bS⟩
  |false =>
   have HK:Hid (jS ws s=3):=ab (by unfold jS;rw[hb,aU];rfl);have HS:Hid (eY ws s=aG ws XD s):=ab (by unfold eY;rw[hb,aU];rfl);have Mz:Hid (lO ws sU s=s):=ab (if_neg (by simp[aU]));have eu:=ab aU;clear hb aU;go_enter func185,ntmps185;go_wp2_with fail
   refine(uh HA).mono ?_;rintro e w1 ⟨rfl,hI,hS⟩;rw[uh sF]at hI;have kX:=aC sU (by decide) hI;rw[uh eu,uh Mz]at kX;have kX:=ab kX;clear hI;have cD:=ab hS;clear hS;go_wp2_with fail
   refine(uh kX).mono ?_;rintro e w2 ⟨rfl,cg,bS⟩;have HE:=ab (aY XD (by decide) cg);clear cg;go_wp2_with fail
   refine(uh HE).mono ?_;rintro e w3 ⟨rfl,fI,cB⟩;go_wp2_with fail
   go_ret;exact⟨br (by rw[uh HK];rfl),by rw[uh HS];exact fI,((uh cD).trans bS).trans cB⟩
theorem zC{r:Nat}{a b c d e:Value}{T:TypeId}(h:w.heap[r]?=some (.cells #[a,b,c,d,e] T (0,0))):
  (w.cell? ⟨r,0,none⟩=some a/\w.cell? ⟨r,1,none⟩=some b/\w.cell? ⟨r,2,none⟩=some c/\w.cell? ⟨r,3,none⟩=some d/\w.cell? ⟨r,4,none⟩=some e) /\
  w.frozen? ⟨r,0,none⟩=false/\w.frozen? ⟨r,1,none⟩=false/\w.frozen? ⟨r,2,none⟩=false/\w.frozen? ⟨r,3,none⟩=false/\w.frozen? ⟨r,4,none⟩=false:=by
 refine⟨⟨?_,?_,?_,?_,?_⟩,?_,?_,?_,?_,?_⟩ <;> simp[World.cell?,World.frozen?,h]
def qP(ws:List ByteArray)(s:PS):PS:=aG ws gb s
def pO(ws:List ByteArray)(s:PS):PS:=aG ws ni (fA ws (qP ws s))
def AA(ws:List ByteArray)(s:PS):PS:=aG ws iY (fA ws (pO ws s))
def XE(ws:List ByteArray)(s:PS):cn:=⟨4,tK ws (qP ws s),tJ ws (qP ws s),tK ws (pO ws s),tJ ws (pO ws s)⟩
theorem PL(h:eO B WV w P ws s F):
  Calls prog 183 #[.pointer (some ⟨P,0,none⟩)] w λe w'=>e=.returned (.agg (XE ws s).cells.toArray)/\∃F',eO B WV w' P ws (AA ws s) F'/\au F w F' w':=by
 have HQ:=ab h;have HA:=λo=>ab (aY gb (by decide) (h.alloc o));clear h;go_enter func183,ntmps183;go_wp2_with fail
 refine(uh (HA _)).mono ?_;rintro e w1 ⟨rfl,dN,bX⟩;obtain⟨bH,j7,xB⟩:=bN (uh HQ).m bX;have fU:=ab bH;have fs:=ab dN;have cD:=ab (((au.refl F w).alloc _).trans bX);clear bH dN bX;go_wp2_with fail
 refine(rg (uh fs)).mono ?_;rintro e w2 ⟨rfl,F2,cg,bS⟩;obtain⟨aU,tY,vt⟩:=aA (uh fU) j7 bS;have eu:=ab aU;have d7:=ab cg;have cS:=ab ((uh cD).trans bS);clear aU cg bS;go_wp2_with fail
 refine(aY ni (by decide) ((uh d7).alloc _)).mono ?_;rintro e w3 ⟨rfl,fI,cB⟩;obtain⟨du,sQ,O1⟩:=aA (uh eu) tY (((au.refl F2 w2).alloc _).trans cB);obtain⟨hc3,CU,CR⟩:=bN (uh d7).m cB;have s8:=ab du;have HC3:=ab hc3;have jb:=ab fI;have gu:=ab ((uh cS).trans (((au.refl F2 w2).alloc _).trans cB));clear du hc3 fI cB;go_wp2_with fail
 refine(rg (uh jb)).mono ?_;rintro e w4 ⟨rfl,F4,mp,fh⟩;obtain⟨nR,O7,hl4⟩:=aA (uh s8) sQ fh;obtain⟨Xb,El,xy⟩:=aA (uh HC3) CU fh;have zq:=ab nR;have HC4:=ab Xb;have oJ:=ab mp;have mA:=ab ((uh gu).trans fh);clear nR Xb mp fh;go_wp2_with fail
 refine(aY iY (by decide) ((uh oJ).alloc _)).mono ?_;rintro e w5 ⟨rfl,rV,fX⟩;have TU:=((au.refl F4 w4).alloc _).trans fX;obtain⟨dT,CV,Xm⟩:=aA (uh zq) O7 TU;obtain⟨hc5,hm5,FA⟩:=aA (uh HC4) El TU;obtain⟨hd5,ho5,hp5⟩:=bN (uh oJ).m fX;obtain⟨⟨a0,a1,a2,a3,a4⟩,g0,g1,g2,g3,g4⟩:=zC dT;obtain⟨⟨d0,d1⟩,e0,e1⟩:=kD hc5;obtain⟨⟨x0,x1⟩,y0,y1⟩:=kD hd5;have GN:=ab rV;have s9:=ab ((uh mA).trans TU);clear dT hc5 hd5 rV fX TU;go_wp2_with fail
 refine bodyPost_ret (v:=.agg (XE ws s).cells.toArray) (by simp[results,Tryz.results183,go_sem,a0,a1,a2,a3,a4,XE,cn.cells,qP,pO]) rfl ⟨rfl,F4,?_,?_⟩
 .exact(((((uh GN).setOther CV _).setOther CV _).setOther CV _).setOther CV _).setOther CV _
 .exact(((((uh s9).setCell (zq1 (zq4 _)) _).setCell (zq1 (zq4 _)) _).setCell (zq1 (zq4 _)) _).setCell (zq1 (zq4 _)) _).setCell (zq1 (zq4 _)) _
end
def ep(ws:List ByteArray)(s:PS):PS:=if bR ws pN s then s.adv else if bR ws Ix s then AA ws s.adv else fA ws (eY ws (fA ws s))
def qm(ws:List ByteArray)(s:PS):cn :=
 if bR ws pN s then ⟨0,0,0,0,0⟩ else if bR ws Ix s then XE ws s.adv else ⟨jS ws (fA ws s),tK ws s,tJ ws s,tK ws (eY ws (fA ws s)),tJ ws (eY ws (fA ws s))⟩
def bT(l:List cn):List Value:=l.flatMap cn.cells
def jm(ws:List ByteArray):Nat->PS->List cn × PS
 |0,s=>([],s)
 |n+1,s=>if bR ws dq s then (qm ws s.adv::(jm ws n (ep ws s.adv)).1,(jm ws n (ep ws s.adv)).2) else ([],s)
def foA(ws:List ByteArray)(s:PS):List cn:=qm ws s::(jm ws (ws.length+1) (ep ws s)).1
def pF(ws:List ByteArray)(s:PS):PS:=(jm ws (ws.length+1) (ep ws s)).2
section
variable {ws:List ByteArray} {s:PS}
theorem dc:s.pos<=s.adv.pos:=Nat.le_succ _
theorem ci(k:ByteArray):s.pos<=(aG ws k s).pos:=by unfold aG;split;exact dc;exact zq4 _
theorem rm:s.pos<=(bK ws s).pos:=by unfold bK;split;exact Nat.le_succ _;exact zq4 _
theorem iR:s.pos<=(ce ws s).pos:=by unfold ce;split;exact dc;exact rm
theorem ur:s.pos<=(fA ws s).pos:=by unfold fA;split;exact Nat.le_succ _;exact iR
theorem QF:s.pos<=(eY ws s).pos:=by unfold eY;split;exact dc;split;exact dc;exact ci _
theorem US:s.pos<=(AA ws s).pos:=by
 unfold AA pO qP;exact zq3 (zq3 (zq3 (zq3 (ci _) ur) (ci _)) ur) (ci _)
theorem SO:s.pos<=(ep ws s).pos:=by
 unfold ep;split
 .exact dc
 .split
  .exact zq3 dc US
  .exact zq3 (zq3 ur QF) ur
end
section
variable {B:Nat} {WV:Value} {w:World} {P:Nat} {ws:List ByteArray} {s:PS} {F:List Nat} {wv vv hv nv:Value}
theorem Cf(h:eO B WV w P ws s F):
  Calls prog 159 #[.pointer (some ⟨P,0,none⟩)] w λe w'=>e=.returned (.agg (qm ws s).cells.toArray)/\∃F',eO B WV w' P ws (ep ws s) F'/\au F w F' w':=by
 have HQ:=ab h;have HA:=λo=>ab (aC pN (by decide) (h.alloc o));clear h;cases hb:bR ws pN s with
 |true =>
  have HK:Hid (qm ws s=⟨0,0,0,0,0⟩):=ab (if_pos hb);have HS:Hid (ep ws s=lO ws pN s):=ab (by unfold ep lO;rw[if_pos hb,if_pos hb]);simp only[hb]at HA;clear hb;go_enter func159,ntmps159;go_wp2_with fail
  refine(uh (HA _)).mono ?_;rintro e w1 ⟨rfl,dN,bX⟩;obtain⟨bH,j7,xB⟩:=bN (uh HQ).m bX;obtain⟨⟨a0,a1,a2,a3,a4⟩,g0,g1,g2,g3,g4⟩:=zC bH;have fs:=ab dN;have cD:=ab (((au.refl F w).alloc _).trans bX);clear bH dN bX;go_wp2_with fail
  refine bodyPost_ret (v:=.agg #[.int .i64 0,.int .i64 0,.int .i64 0,.int .i64 0,.int .i64 0]) (by simp[results,Tryz.results159,go_sem,a0,a1,a2,a3,a4]) rfl ⟨by rw[uh HK];rfl,F,?_,?_⟩
  .rw[uh HS];exact(((((uh fs).setOther j7 _).setOther j7 _).setOther j7 _).setOther j7 _).setOther j7 _
  .exact(((((uh cD).setCell (zq1 (zq4 _)) _).setCell (zq1 (zq4 _)) _).setCell (zq1 (zq4 _)) _).setCell (zq1 (zq4 _)) _).setCell (zq1 (zq4 _)) _
 |false =>
  have sF:Hid (lO ws pN s=s):=ab (if_neg (by simp[hb]));simp only[hb]at HA;cases aU:bR ws Ix s with
  |true =>
   have HK:Hid (qm ws s=XE ws s.adv):=ab (by unfold qm;rw[hb,aU];rfl);have HS:Hid (ep ws s=AA ws s.adv):=ab (by unfold ep;rw[hb,aU];rfl);have Mz:Hid (lO ws Ix s=s.adv):=ab (if_pos aU);have eu:=ab aU;clear hb aU;go_enter func159,ntmps159;go_wp2_with fail
   refine(uh (HA _)).mono ?_;rintro e w1 ⟨rfl,dN,bX⟩;obtain⟨bH,j7,xB⟩:=bN (uh HQ).m bX;rw[uh sF]at dN;have fU:=ab bH;have cD:=ab (((au.refl F w).alloc _).trans bX);have kX:=aC Ix (by decide) dN;rw[uh eu,uh Mz]at kX;replace kX:=ab kX
   clear bH dN bX;go_wp2_with fail
   refine(uh kX).mono ?_;rintro e w2 ⟨rfl,cg,bS⟩;obtain⟨aU,tY,vt⟩:=aA (uh fU) j7 bS;have eu:=ab aU;have d7:=ab cg;have cS:=ab ((uh cD).trans bS);clear aU cg bS;go_wp2_with fail
   refine(PL (uh d7)).mono ?_;rintro e w3 ⟨rfl,F3,fI,cB⟩;obtain⟨du,sQ,O1⟩:=aA (uh eu) tY cB;obtain⟨⟨a0,a1,a2,a3,a4⟩,g0,g1,g2,g3,g4⟩:=zC du;have jb:=ab fI;have gu:=ab ((uh cS).trans cB);clear du fI cB;obtain⟨k0,k1,k2,k3,k4,hat⟩:∃k0 k1 k2 k3 k4,XE ws s.adv=⟨k0,k1,k2,k3,k4⟩:=⟨_,_,_,_,_,rfl⟩;rw[hat]at HK ⊢;clear hat;simp only[cn.cells];go_wp2_with fail
   refine bodyPost_ret (v:=.agg #[.int .i64 k0,.int .i64 k1,.int .i64 k2,.int .i64 k3,.int .i64 k4]) (by simp[results,Tryz.results159,go_sem,a0,a1,a2,a3,a4]) rfl ⟨by rw[uh HK];rfl,F3,?_,?_⟩
   .rw[uh HS];exact(((((uh jb).setOther sQ _).setOther sQ _).setOther sQ _).setOther sQ _).setOther sQ _
   .exact(((((uh gu).setCell (zq1 (zq4 _)) _).setCell (zq1 (zq4 _)) _).setCell (zq1 (zq4 _)) _).setCell (zq1 (zq4 _)) _).setCell (zq1 (zq4 _)) _
  |false =>
   have HK:Hid (qm ws s=⟨jS ws (fA ws s),tK ws s,tJ ws s,tK ws (eY ws (fA ws s)),tJ ws (eY ws (fA ws s))⟩):=ab (by unfold qm;rw[hb,aU];rfl);have HS:Hid (ep ws s=fA ws (eY ws (fA ws s))):=ab (by unfold ep;rw[hb,aU];rfl);have Mz:Hid (lO ws Ix s=s):=ab (if_neg (by simp[aU]));have eu:=ab aU;clear hb aU;go_enter func159,ntmps159;go_wp2_with fail
   refine(uh (HA _)).mono ?_;rintro e w1 ⟨rfl,dN,bX⟩;obtain⟨bH,j7,xB⟩:=bN (uh HQ).m bX;rw[uh sF]at dN;have fU:=ab bH;have cD:=ab (((au.refl F w).alloc _).trans bX);have kX:=aC Ix (by decide) dN;rw[uh eu,uh Mz]at kX;replace kX:=ab kX
   clear bH dN bX;go_wp2_with fail
   refine(uh kX).mono ?_;rintro e w2 ⟨rfl,cg,bS⟩;obtain⟨aU,tY,vt⟩:=aA (uh fU) j7 bS;have eu:=ab aU;have d7:=ab cg;have cS:=ab ((uh cD).trans bS);clear aU cg bS;go_wp2_with fail
   refine(rg (uh d7)).mono ?_;rintro e w3 ⟨rfl,F3,fI,cB⟩;obtain⟨du,sQ,O1⟩:=aA (uh eu) tY cB;have s8:=ab du;have jb:=ab fI;have gu:=ab ((uh cS).trans cB);clear du fI cB;go_wp2_with fail
   refine(Bd ((uh jb).alloc _)).mono ?_;rintro e w4 ⟨rfl,mp,fh⟩;obtain⟨nR,O7,hl4⟩:=aA (uh s8) sQ (((au.refl F3 w3).alloc _).trans fh);obtain⟨Xb,El,xy⟩:=bN (uh jb).m fh;have zq:=ab nR;have HC4:=ab Xb;have oJ:=ab mp;have mA:=ab ((uh gu).trans (((au.refl F3 w3).alloc _).trans fh));clear nR Xb mp fh;go_wp2_with fail
   refine(rg (uh oJ)).mono ?_;rintro e w5 ⟨rfl,F5,rV,fX⟩;obtain⟨dT,CV,Xm⟩:=aA (uh zq) O7 fX;obtain⟨hc5,hm5,FA⟩:=aA (uh HC4) El fX;obtain⟨⟨a0,a1,a2,a3,a4⟩,g0,g1,g2,g3,g4⟩:=zC dT;obtain⟨⟨d0,d1⟩,e0,e1⟩:=kD hc5;have GN:=ab rV;have s9:=ab ((uh mA).trans fX);clear dT hc5 rV fX;go_wp2_with fail
   refine bodyPost_ret (v:=.agg #[.int .i64 (jS ws (fA ws s)),.int .i64 (tK ws s),.int .i64 (tJ ws s),.int .i64 (tK ws (eY ws (fA ws s))),.int .i64 (tJ ws (eY ws (fA ws s)))]) (by simp[results,Tryz.results159,go_sem,cell?_alloc_past,Xm,a0,a1,a2,a3,a4]) rfl ⟨by rw[uh HK];rfl,F5,?_,?_⟩
   .rw[uh HS];exact((((((uh GN).setOther CV _).setOther CV _).setOther CV _).setOther CV _).setOther CV _).alloc _
   .exact((((((uh s9).setCell (zq1 (zq4 _)) _).setCell (zq1 (zq4 _)) _).setCell (zq1 (zq4 _)) _).setCell (zq1 (zq4 _)) _).setCell (zq1 (zq4 _)) _).alloc _
end
structure Pr where
 k:Nat
 l:Nat
 r:Nat
def ax:Pr:=⟨0,0,0⟩
structure CF where
 cl:List Nat
 ap:List Pr
 ow:List Pr
def nK(k i:Nat):Nat:=if k=1 then 1+i else if k=2 then 5+i else 0
def j9(c:List Nat)(a:cn):List Nat:=if a.k=1 then c.map (λx=>if x=c.getD (nK a.rk a.ri) 0 then c.getD (nK a.lk a.li) 0 else x) else c
def gS(al:List cn):List Nat:=al.foldl j9 (range 13)
def iP(c:List Nat)(a:cn):Pr:=⟨a.k,c.getD (nK a.lk a.li) 0,c.getD (nK a.rk a.ri) 0⟩
def bf(al:List cn):CF:=⟨(gS al).take 5,(al.filter (λa=>a.k==2)).map (iP (gS al)),(al.filter (λa=>a.k==3||a.k==4)).map (iP (gS al))⟩
def cU:List Pr->Nat->Option Nat
 |[],_=>none
 |p::r,c=>if p.l=c then some 0 else (cU r c).map (·+1)
def mP:List Nat->List Pr->Bool
 |_,[]=>false
 |seen,p::r=>if p.l∈seen then true else mP (p.l::seen) r
def eE(f:CF):Bool:=f.ap.any (λp=>p.l==p.r)||mP [f.cl.getD 0 0] f.ow
def lV(f:CF)(a b:Nat):Bool:=((cU f.ow a).isSome&&((cU f.ow b).isSome||b==f.cl.getD 0 0))||((cU f.ow b).isSome&&a==f.cl.getD 0 0)
def bj(f:CF)(a b:Nat):Bool:=if a=b then false else f.ap.any (λp=>(p.l==a&&p.r==b)||(p.l==b&&p.r==a))||lV f a b
structure SS where
 bd:List (Option Nat)
 ot:List (Option Nat)
 un:Nat
 pl:List Bool
 st:Int
def SS.b(s:SS)(c:Nat):Option Nat:=s.bd.getD c none
def LT(V T:CF)(s:SS):Bool:=T.ap.all (λp=>p.l != p.r&&(match s.b p.l,s.b p.r with|some a,some b=>bj V a b|_,_=>true))
def RG(T:CF)(s:SS):List Nat->Option Nat->Option Nat
 |[],o=>o
 |k::r,o=>if s.pl.getD k false=true then RG T s r o else if (s.b (T.ow.getD k ax).l).isSome=true then some k else RG T s r (if o.isSome=true then o else some k)
def YS(T:CF)(s:SS):Option Nat:=RG T s (range s.pl.length) none
def Gk(W:SS->Nat->Nat->Nat->Bool × SS)(k left count:Nat):List Pr->SS->Bool × SS
 |[],s=>(false,{ s with bd:=s.bd.set left none })
 |p::r,s=>match W { s with bd:=s.bd.set left (some p.l) } k p.l count with
  |(true,s')=>(true,s')
  |(false,s')=>Gk W k left count r s'
def y9(W:SS->Nat->Nat->Nat->Bool × SS)(V T:CF)(s:SS)(count:Nat):Bool × SS :=
 if T.ow.length=count then (decide (s.un=0)&&LT V T s,s)
 else if s.un<T.ow.length-count then (false,s)
 else match YS T s with
  |none=>(false,s)
  |some k=>match s.b (T.ow.getD k ax).l with
   |some at_=>W s k at_ count
   |none=>Gk W k (T.ow.getD k ax).l count V.ow s
def E3(P:SS->Nat->Bool × SS)(T:CF)(s:SS)(k at_ count:Nat):Bool × SS :=
 if s.b (T.ow.getD k ax).r≠none/\s.b (T.ow.getD k ax).r≠some at_ then (false,s)
 else match P { s with bd:=s.bd.set (T.ow.getD k ax).r (some at_),pl:=s.pl.set k true } (count+1) with
  |(true,s')=>(true,s')
  |(false,s')=>(false,{ s' with pl:=s'.pl.set k false,bd:=s'.bd.set (T.ow.getD k ax).r (s.b (T.ow.getD k ax).r) })
def wk(V T:CF):Nat->SS->Nat->Nat->Nat->Bool × SS
 |0,s,_,_,_=>(false,s)
 |m+1,s,k,at_,count =>
  if wrap64 (s.st-1)<0 then (false,{ s with st:=wrap64 (s.st-1) })
  else match cU V.ow at_ with
   |none=>(false,{ s with st:=wrap64 (s.st-1) })
   |some i =>
    if s.ot.getD i none≠none then (false,{ s with st:=wrap64 (s.st-1) })
    else if (T.ow.getD k ax).k≠4/\(V.ow.getD i ax).k=4 then (false,{ s with st:=wrap64 (s.st-1) })
    else match E3 (y9 (wk V T m) V T) T { s with st:=wrap64 (s.st-1),ot:=s.ot.set i (some k),un:=s.un-1 } k (V.ow.getD i ax).r count with
     |(true,s')=>(true,s')
     |(false,s2)=>match (if (T.ow.getD k ax).k=4 then wk V T m s2 k (V.ow.getD i ax).r count else (false,s2)) with
      |(true,s')=>(true,s')
      |(false,s3)=>(false,{ s3 with ot:=s3.ot.set i none,un:=s3.un+1 })
