import Derived.Test.YtciihepbeacppaaGreatM00
import Derived.Deep.LoopGhost
set_option maxRecDepth 100000
set_option maxHeartbeats 0
namespace Go.Proofs.YtciihepbeacppaaGreat
open Tryz Go.RowKit List World Below
set_option linter.unusedVariables false
def dd(B:Nat)(WV:Value)(w:World)(P:Nat)(ws:List ByteArray)(s:PS)(F:List Nat)(wv vv hv nv:Value):Prop :=
  w.heap[P]?=some (.cells #[wv,.int .i64 s.pos,.bool s.failed,vv,hv,nv] 133 (0,0))/\(B<=P/\wv=WV) /\
  w.ownsRow B 9 1 wv ws.length (ws.map Value.string) /\
  w.ownsRow B 5 1 vv s.vars.length (bc s.vars) /\
  w.ownsRow B 5 1 hv s.hid.length (bc s.hid) /\
  w.ownsRow B 186 6 nv s.nodes.length (bj s.nodes) /\
  F=P::(wv.ownBlock.toList++(vv.ownBlock.toList++(hv.ownBlock.toList++nv.ownBlock.toList)))/\F.Nodup
section
variable {B:Nat} {WV:Value} {w:World} {P:Nat} {ws:List ByteArray} {s:PS} {F:List Nat} {wv vv hv nv:Value}
theorem kw.named(h:kw B WV w P ws s F):∃wv vv hv nv,dd B WV w P ws s F wv vv hv nv:=h
theorem dd.is(h:dd B WV w P ws s F wv vv hv nv):kw B WV w P ws s F:=⟨wv,vv,hv,nv,h⟩
theorem dd.of_eq{w':World}(h:dd B WV w P ws s F wv vv hv nv)(he:∀k∈F,w'.heap[k]?=w.heap[k]?):dd B WV w' P ws s F wv vv hv nv:=by
 obtain⟨hP,hB,h1,h2,h3,h4,hF,hN⟩:=h;have hm:∀k,k=P\/wv.ownBlock=some k\/vv.ownBlock=some k\/hv.ownBlock=some k\/nv.ownBlock=some k->k∈F:=by
  intro k hk;rw[hF];simpa using hk
 exact⟨by rw[he P (hm P (by simp))];exact hP,hB,ae h1 (λk hk=>he k (hm k (by simp[hk]))),ae h2 (λk hk=>he k (hm k (by simp[hk]))),
  ae h3 (λk hk=>he k (hm k (by simp[hk]))),ae h4 (λk hk=>he k (hm k (by simp[hk]))),hF,hN⟩
theorem dd.drewN(h:dd B WV w P ws s F wv vv hv nv)(n:Nat):dd B WV (w.drewN n) P ws s F wv vv hv nv:=h.of_eq (λ_ _=>rfl)
theorem dd.alloc(h:dd B WV w P ws s F wv vv hv nv)(o:Obj):dd B WV (w.alloc o) P ws s F wv vv hv nv:=h.of_eq (λk hk=>heap_alloc _ _ _ (h.is.mem k hk).2)
theorem dd.setPos(h:dd B WV w P ws s F wv vv hv nv)(n:Nat):dd B WV (w.setCell ⟨P,1,none⟩ (.int .i64 n)) P ws { s with pos:=n } F wv vv hv nv:=by
 obtain⟨hP,hB,h1,h2,h3,h4,hF,hN⟩:=h;have aJ:∀k,wv.ownBlock=some k\/vv.ownBlock=some k\/hv.ownBlock=some k\/nv.ownBlock=some k->k≠P:=by
  rw[hF]at hN;rintro k hk rfl;exact(nodup_cons.1 hN).1 (by simpa using hk)
 have hk:∀k,wv.ownBlock=some k\/vv.ownBlock=some k\/hv.ownBlock=some k\/nv.ownBlock=some k->(w.setCell ⟨P,1,none⟩ (.int .i64 n)).heap[k]?=w.heap[k]? :=
  λk hk=>heap_setCell _ _ _ _ (aJ k hk)
 exact⟨wG hP _,hB,ae h1 (λk h=>hk k (by simp[h])),ae h2 (λk h=>hk k (by simp[h])),ae h3 (λk h=>hk k (by simp[h])),ae h4 (λk h=>hk k (by simp[h])),hF,hN⟩
theorem dd.apart(h:dd B WV w P ws s F wv vv hv nv):(∀k,wv.ownBlock=some k\/vv.ownBlock=some k\/hv.ownBlock=some k\/nv.ownBlock=some k->k≠P) /\
  (∀k,vv.ownBlock=some k->wv.ownBlock≠some k/\hv.ownBlock≠some k/\nv.ownBlock≠some k)/\(∀k,hv.ownBlock=some k->wv.ownBlock≠some k/\vv.ownBlock≠some k/\nv.ownBlock≠some k) /\
  (∀k,nv.ownBlock=some k->wv.ownBlock≠some k/\vv.ownBlock≠some k/\hv.ownBlock≠some k):=by
 obtain⟨hP,hB,h1,h2,h3,h4,hF,hN⟩:=h;rw[hF]at hN;cases a:wv.ownBlock <;> cases b:vv.ownBlock <;> cases c:hv.ownBlock <;> cases d:nv.ownBlock <;> simp[a,b,c,d]at hN ⊢ <;> grind
theorem Uj{P g:Nat}{a b c d:List Nat}(h:(P::(a++(b++(c++d)))).Nodup)(hg:g ∉ P::(a++(c++d))):(P::(a++([g]++(c++d)))).Nodup:=by
 simp only[nodup_cons,nodup_append,mem_append,mem_cons]at *;grind
theorem aar{P g:Nat}{a b c d:List Nat}(h:(P::(a++(b++(c++d)))).Nodup)(hg:g ∉ P::(a++(b++d))):(P::(a++(b++([g]++d)))).Nodup:=by
 simp only[nodup_cons,nodup_append,mem_append,mem_cons]at *;grind
theorem Pc{P g:Nat}{a b c d:List Nat}(h:(P::(a++(b++(c++d)))).Nodup)(hg:g ∉ P::(a++(b++c))):(P::(a++(b++(c++[g])))).Nodup:=by
 simp only[nodup_cons,nodup_append,mem_append,mem_cons]at *;grind
theorem dd.pushVars {w3:World} {o:Obj} {g cap:Nat} (x:UInt8) (h:dd B WV w P ws s F wv vv hv nv) (hg:(w.alloc o).grownBy w3 vv.ownBlock)
  (aN:w3.ownsRow B 5 1 (.slice (some ⟨g,0,none⟩) (s.vars.length+1) cap) (s.vars.length+1) (bc s.vars++[.int .u8 (x.toNat:Int)]))
  (hb:some g=vv.ownBlock\/g=(w.alloc o).heap.size) :
  ∃F',kw B WV (w3.setCell ⟨P,3,none⟩ (.slice (some ⟨g,0,none⟩) (s.vars.length+1) cap)) P ws { s with vars:=s.vars++[x] } F'/\ar F w F' (w3.setCell ⟨P,3,none⟩ (.slice (some ⟨g,0,none⟩) (s.vars.length+1) cap)):=by
 have fT:=h.apart;have fx:=h.is.mem;have ko:(w.alloc o).heap.size=w.heap.size+1:=by simp
 obtain⟨hP,hB,h1,h2,h3,h4,hF,hN⟩:=h;have xu:P<w.heap.size:=(fx P (by rw[hF];simp)).2;have hgP:g≠P:=by
  rcases hb with hb|hb
  .exact fT.1 g (by simp[<-hb])
  .omega
 have fY:∀k,k<w.heap.size->vv.ownBlock≠some k->k≠P->(w3.setCell ⟨P,3,none⟩ (.slice (some ⟨g,0,none⟩) (s.vars.length+1) cap)).heap[k]?=w.heap[k]?:=by
  intro k hk aJ hkP;rw[heap_setCell _ _ _ _ hkP,hg.block k (by omega) (λe=>aJ e.symm),heap_alloc _ _ _ hk]
 have No:w3.heap[P]?=some (.cells #[wv,.int .i64 s.pos,.bool s.failed,vv,hv,nv] 133 (0,0)):=by
  rw[hg.block P (by omega) (λe=>(fT.1 P (by simp[<-e])) rfl),heap_alloc _ _ _ xu];exact hP
 have aq:∀k,wv.ownBlock=some k\/vv.ownBlock=some k\/hv.ownBlock=some k\/nv.ownBlock=some k->k<w.heap.size:=λk hk=>(fx k (by rw[hF];simpa using zq1 hk)).2;have hgF:g∈F\/g=w.heap.size+1:=by
  rcases hb with hb|hb
  .left;rw[hF];simp[<-hb]
  .right;omega
 refine⟨P::(wv.ownBlock.toList++([g]++(hv.ownBlock.toList++nv.ownBlock.toList))),⟨wv,.slice (some ⟨g,0,none⟩) (s.vars.length+1) cap,hv,nv,wG No _,hB,?_,?_,?_,?_,rfl,?_⟩,⟨hg.os,hg.tape,hg.output,?_,?_,?_⟩⟩
 .exact ae h1 (λk hk=>fY k (aq k (by simp[hk])) (λe=>by have:=fT;grind) (λe=>(fT.1 k (by simp[hk])) e))
 .exact ae (gR aN (by simp) (by simp[bc])) (λk hk=>heap_setCell _ _ _ _ (by simp[Value.ownBlock]at hk;subst hk;exact hgP))
 .exact ae h3 (λk hk=>fY k (aq k (by simp[hk])) (λe=>by have:=fT;grind) (λe=>(fT.1 k (by simp[hk])) e))
 .exact ae h4 (λk hk=>fY k (aq k (by simp[hk])) (λe=>by have:=fT;grind) (λe=>(fT.1 k (by simp[hk])) e))
 .rw[hF]at hN;rcases hb with hb|hb
  .have e:vv.ownBlock.toList=[g]:=(by rw[<-hb];rfl);rw[e]at hN;exact hN
  .refine Uj hN ?_;intro hm;have:=aq g (by simpa using Or.resolve_left (mem_cons.1 hm) hgP |> λz=>(by grind));omega
 .have:=hg.size;simp[World.setCell];omega
 .intro k hk hkF;exact fY k hk (λe=>hkF (by rw[hF];simp[e])) (λe=>hkF (by rw[hF,e];simp))
 .intro k hk;rw[hF];rw[hF]at hgF;grind
theorem dd.pushHid {w3:World} {o:Obj} {g cap:Nat} (x:UInt8) (h:dd B WV w P ws s F wv vv hv nv) (hg:(w.alloc o).grownBy w3 hv.ownBlock)
  (aN:w3.ownsRow B 5 1 (.slice (some ⟨g,0,none⟩) (s.hid.length+1) cap) (s.hid.length+1) (bc s.hid++[.int .u8 (x.toNat:Int)]))
  (hb:some g=hv.ownBlock\/g=(w.alloc o).heap.size) :
  ∃F',kw B WV (w3.setCell ⟨P,4,none⟩ (.slice (some ⟨g,0,none⟩) (s.hid.length+1) cap)) P ws { s with hid:=s.hid++[x] } F'/\ar F w F' (w3.setCell ⟨P,4,none⟩ (.slice (some ⟨g,0,none⟩) (s.hid.length+1) cap)):=by
 have fT:=h.apart;have fx:=h.is.mem;have ko:(w.alloc o).heap.size=w.heap.size+1:=by simp
 obtain⟨hP,hB,h1,h2,h3,h4,hF,hN⟩:=h;have xu:P<w.heap.size:=(fx P (by rw[hF];simp)).2;have hgP:g≠P:=by
  rcases hb with hb|hb
  .exact fT.1 g (by simp[<-hb])
  .omega
 have fY:∀k,k<w.heap.size->hv.ownBlock≠some k->k≠P->(w3.setCell ⟨P,4,none⟩ (.slice (some ⟨g,0,none⟩) (s.hid.length+1) cap)).heap[k]?=w.heap[k]?:=by
  intro k hk aJ hkP;rw[heap_setCell _ _ _ _ hkP,hg.block k (by omega) (λe=>aJ e.symm),heap_alloc _ _ _ hk]
 have No:w3.heap[P]?=some (.cells #[wv,.int .i64 s.pos,.bool s.failed,vv,hv,nv] 133 (0,0)):=by
  rw[hg.block P (by omega) (λe=>(fT.1 P (by simp[<-e])) rfl),heap_alloc _ _ _ xu];exact hP
 have aq:∀k,wv.ownBlock=some k\/vv.ownBlock=some k\/hv.ownBlock=some k\/nv.ownBlock=some k->k<w.heap.size:=λk hk=>(fx k (by rw[hF];simpa using zq1 hk)).2;have hgF:g∈F\/g=w.heap.size+1:=by
  rcases hb with hb|hb
  .left;rw[hF];simp[<-hb]
  .right;omega
 refine⟨P::(wv.ownBlock.toList++(vv.ownBlock.toList++([g]++nv.ownBlock.toList))),⟨wv,vv,.slice (some ⟨g,0,none⟩) (s.hid.length+1) cap,nv,wG No _,hB,?_,?_,?_,?_,rfl,?_⟩,⟨hg.os,hg.tape,hg.output,?_,?_,?_⟩⟩
 .exact ae h1 (λk hk=>fY k (aq k (by simp[hk])) (λe=>by have:=fT;grind) (λe=>(fT.1 k (by simp[hk])) e))
 .exact ae h2 (λk hk=>fY k (aq k (by simp[hk])) (λe=>by have:=fT;grind) (λe=>(fT.1 k (by simp[hk])) e))
 .exact ae (gR aN (by simp) (by simp[bc])) (λk hk=>heap_setCell _ _ _ _ (by simp[Value.ownBlock]at hk;subst hk;exact hgP))
 .exact ae h4 (λk hk=>fY k (aq k (by simp[hk])) (λe=>by have:=fT;grind) (λe=>(fT.1 k (by simp[hk])) e))
 .rw[hF]at hN;rcases hb with hb|hb
  .have e:hv.ownBlock.toList=[g]:=(by rw[<-hb];rfl);rw[e]at hN;exact hN
  .refine aar hN ?_;intro hm;have:=aq g (by simpa using Or.resolve_left (mem_cons.1 hm) hgP |> λz=>(by grind));omega
 .have:=hg.size;simp[World.setCell];omega
 .intro k hk hkF;exact fY k hk (λe=>hkF (by rw[hF];simp[e])) (λe=>hkF (by rw[hF,e];simp))
 .intro k hk;rw[hF];rw[hF]at hgF;grind
theorem dd.pushNodes {w3:World} {o:Obj} {g cap:Nat} (x:Nd) (h:dd B WV w P ws s F wv vv hv nv) (hg:(w.alloc o).grownBy w3 nv.ownBlock)
  (aN:w3.ownsRow B 186 6 (.slice (some ⟨g,0,none⟩) (s.nodes.length+1) cap) (s.nodes.length+1) (bj s.nodes++x.cells))
  (hb:some g=nv.ownBlock\/g=(w.alloc o).heap.size) :
  ∃F',kw B WV (w3.setCell ⟨P,5,none⟩ (.slice (some ⟨g,0,none⟩) (s.nodes.length+1) cap)) P ws { s with nodes:=s.nodes++[x] } F'/\ar F w F' (w3.setCell ⟨P,5,none⟩ (.slice (some ⟨g,0,none⟩) (s.nodes.length+1) cap)):=by
 have fT:=h.apart;have fx:=h.is.mem;have ko:(w.alloc o).heap.size=w.heap.size+1:=by simp
 obtain⟨hP,hB,h1,h2,h3,h4,hF,hN⟩:=h;have xu:P<w.heap.size:=(fx P (by rw[hF];simp)).2;have hgP:g≠P:=by
  rcases hb with hb|hb
  .exact fT.1 g (by simp[<-hb])
  .omega
 have fY:∀k,k<w.heap.size->nv.ownBlock≠some k->k≠P->(w3.setCell ⟨P,5,none⟩ (.slice (some ⟨g,0,none⟩) (s.nodes.length+1) cap)).heap[k]?=w.heap[k]?:=by
  intro k hk aJ hkP;rw[heap_setCell _ _ _ _ hkP,hg.block k (by omega) (λe=>aJ e.symm),heap_alloc _ _ _ hk]
 have No:w3.heap[P]?=some (.cells #[wv,.int .i64 s.pos,.bool s.failed,vv,hv,nv] 133 (0,0)):=by
  rw[hg.block P (by omega) (λe=>(fT.1 P (by simp[<-e])) rfl),heap_alloc _ _ _ xu];exact hP
 have aq:∀k,wv.ownBlock=some k\/vv.ownBlock=some k\/hv.ownBlock=some k\/nv.ownBlock=some k->k<w.heap.size:=λk hk=>(fx k (by rw[hF];simpa using zq1 hk)).2;have hgF:g∈F\/g=w.heap.size+1:=by
  rcases hb with hb|hb
  .left;rw[hF];simp[<-hb]
  .right;omega
 refine⟨P::(wv.ownBlock.toList++(vv.ownBlock.toList++(hv.ownBlock.toList++[g]))),⟨wv,vv,hv,.slice (some ⟨g,0,none⟩) (s.nodes.length+1) cap,wG No _,hB,?_,?_,?_,?_,rfl,?_⟩,⟨hg.os,hg.tape,hg.output,?_,?_,?_⟩⟩
 .exact ae h1 (λk hk=>fY k (aq k (by simp[hk])) (λe=>by have:=fT;grind) (λe=>(fT.1 k (by simp[hk])) e))
 .exact ae h2 (λk hk=>fY k (aq k (by simp[hk])) (λe=>by have:=fT;grind) (λe=>(fT.1 k (by simp[hk])) e))
 .exact ae h3 (λk hk=>fY k (aq k (by simp[hk])) (λe=>by have:=fT;grind) (λe=>(fT.1 k (by simp[hk])) e))
 .exact ae (gR aN (by simp) (by simp[bj])) (λk hk=>heap_setCell _ _ _ _ (by simp[Value.ownBlock]at hk;subst hk;exact hgP))
 .rw[hF]at hN;rcases hb with hb|hb
  .have e:nv.ownBlock.toList=[g]:=(by rw[<-hb];rfl);rw[e]at hN;exact hN
  .refine Pc hN ?_;intro hm;have:=aq g (by simpa using Or.resolve_left (mem_cons.1 hm) hgP |> λz=>(by grind));omega
 .have:=hg.size;simp[World.setCell];omega
 .intro k hk hkF;exact fY k hk (λe=>hkF (by rw[hF];simp[e])) (λe=>hkF (by rw[hF,e];simp))
 .intro k hk;rw[hF];rw[hF]at hgF;grind
end
def BQ(u:ByteArray):UInt8:=u.data.toList.headD 0
def put(l:List UInt8)(c:UInt8):List UInt8:=if plc l c=l.length then l++[c] else l
def rR(ws:List ByteArray)(s:PS):Nat:=if aX (pk ws s) then plc s.vars (BQ (pk ws s)) else 0
def cn(ws:List ByteArray)(s:PS):PS:=if aX (pk ws s) then { s with pos:=s.pos+1,vars:=put s.vars (BQ (pk ws s)) } else s.fail
theorem yP{u:ByteArray}(h:0<u.size):BQ u=u[0]:=by
 obtain⟨⟨l⟩⟩:=u;match l,h with
 |c::r,_=>rfl
theorem Ka{u:ByteArray}(h:aX u=true):u.size=1:=by
 by_cases hs:u.size=1
 .exact hs
 .rw[pK u hs]at h;cases h
theorem PD(l:List UInt8)(c:UInt8):(put l c).length<=l.length+1:=by unfold put;split <;> simp
theorem infoNode:(prog.info? 186).map (λi=>(i.zero,i.size,i.bytes))=some (some (.agg #[.int .i64 0,.int .i64 0,.int .i64 0,.int .i64 0,.int .i64 0,.int .i64 0]),6,48):=by kernel_rfl
section
variable {B:Nat} {WV:Value} {w:World} {P:Nat} {ws:List ByteArray} {s:PS} {F:List Nat} {wv vv hv nv:Value}
theorem CW.va(h:CW ws s)(hp:s.pos<ws.length)(c:UInt8):CW ws { s with pos:=s.pos+1,vars:=put s.vars c }:=by
 obtain⟨a,b,d,e⟩:=h;have:=PD s.vars c;simp only[CW];omega
theorem dd.readsV(h:dd B WV w P ws s F wv vv hv nv):w.cell? ⟨P,1,none⟩=some (.int .i64 s.pos)/\w.cell? ⟨P,2,none⟩=some (.bool s.failed)/\w.cell? ⟨P,3,none⟩=some vv/\w.cell? ⟨P,4,none⟩=some hv/\w.cell? ⟨P,5,none⟩=some nv/\(∀j,w.frozen? ⟨P,j,none⟩=false):=by
 obtain⟨hP,_⟩:=h;obtain⟨⟨c0,c1,c2,c3,c4,c5⟩,fz⟩:=iC hP;exact⟨c1,c2,c3,c4,c5,fz⟩
theorem re{e:TypeId}{v:Value}{sz n:Nat}{xs:List Value}(h:w.ownsRow B e sz v n xs)(k:Nat)(o:Obj):((w.drewN k).alloc o).ownsRow B e sz v n xs:=ownsRow.alloc (w:=w.drewN k) h o
theorem Pj(w:World)(k:Nat)(x:Value)(T:TypeId):∀(j:Nat) (u:Value),[x][j]?=some u->((w.drewN k).alloc (.cells #[x] T)).cell? ((⟨w.heap.size,0,none⟩:Addr).add j)=some u:=zE (w.drewN k) x T
theorem uE(n:Int):∀u∈[Value.int .u8 n],u.oneCell'=true:=by intro u hu;simp at hu;subst hu;rfl
theorem xN{B:Nat}(h:B<=w.heap.size)(k:Nat)(o:Obj):B<=((w.drewN k).alloc o).heap.size:=by simp;omega
theorem rE{w2:World}{o:Obj}{row:Option Nat}{k:Nat}(hg:((w.drewN k).alloc o).grownBy w2 row)(hP:P<w.heap.size)(aJ:row≠some P):w2.heap[P]?=w.heap[P]?:=by
 rw[hg.block P (by simp;omega) (λe=>aJ e.symm)];exact heap_alloc (w.drewN k) _ _ hP
theorem gj{w2:World}{o:Obj}{row:Option Nat}{k:Nat}(hg:((w.drewN k).alloc o).grownBy w2 row)(hP:P<w.heap.size)(aJ:row≠some P)(j:Nat){v:Value}(h:w.cell? ⟨P,j,none⟩=some v):w2.cell? ⟨P,j,none⟩=some v :=
 (cell?_of_block (a:=⟨P,j,none⟩) (rE hg hP aJ)).trans h
theorem d9{w2:World}{o:Obj}{row:Option Nat}{k:Nat}(hg:((w.drewN k).alloc o).grownBy w2 row)(hP:P<w.heap.size)(aJ:row≠some P)(j:Nat){b:Bool}(h:w.frozen? ⟨P,j,none⟩=b):w2.frozen? ⟨P,j,none⟩=b :=
 (World.frozen?_of_block (a:=⟨P,j,none⟩) (rE hg hP aJ)).trans h
theorem jt{n j:Nat}{v:Value}{l:List UInt8}{c:UInt8}(hj:j=plc l c)(h:w.ownsRow B 5 1 v l.length (bc l))(hl:l.length<=20000):
  Calls prog 212 #[v,.int .u8 (c.toNat:Int)] (w.drewN n) λe w''=>e=.returned (.int .i64 j)/\∃m,w''=w.drewN m:=by
 subst hj;exact Calls.quiet_of_same (Ko (B:=B) (w:=w.drewN n) c h hl)
theorem ek(h:dP B WV w P ws s F):
  Calls prog 215 #[.pointer (some ⟨P,0,none⟩)] w λe w'=>e=.returned (.int .i64 (rR ws s))/\∃F',dP B WV w' P ws (cn ws s) F'/\ar F w F' w':=by
 obtain⟨i0,hi,eo,ep,eK⟩:=info_parts infoByte;have HQ:=ab h;have HK:=ab (jZ h);obtain⟨wv,vv,hv,nv,cW⟩:=h.m.named;obtain⟨hl,hp,qp,hhl⟩:=h.f;clear h;obtain⟨u,hu⟩:∃u,u=pk ws s:=⟨_,rfl⟩;have HU:=ab hu;rw[<-hu]at HK;clear hu;cases gJ:aX u with
 |false =>
  have HI:Hid (rR ws s=0):=ab (by unfold rR;rw[<-uh HU,gJ];rfl);have HS:Hid (cn ws s=s.fail):=ab (by unfold cn;rw[<-uh HU,gJ];rfl);obtain⟨c1,c2,c3,c4,c5,fz⟩:=cW.readsV;have f2:=fz 2;clear c1 c3 c4 c5 fz cW;go_enter func215,ntmps215;go_wp2_with (first|(go_at_call 160;refine(uh HK).mono ?_;rintro e w' ⟨rfl,n,rfl⟩)|(go_at_call 248;refine(l6 u _).mono ?_;rintro e w' ⟨rfl,rfl⟩))
  go_ret;exact⟨bm (by rw[uh HI];rfl),F,⟨by rw[uh HS];exact((uh HQ).m.drewN n).setFailed true,by rw[uh HS];exact(uh HQ).f⟩,((ar.refl F w).drewN n).setCell (zq0 (uh HQ).m.memP) _⟩
 |true =>
  have hus:0<u.size:=by rw[Ka gJ];omega
  have HI:Hid (rR ws s=plc s.vars u[0]):=ab (by unfold rR;rw[<-uh HU,gJ,if_pos rfl,yP hus]);have HS:Hid (cn ws s={ s with pos:=s.pos+1,vars:=put s.vars u[0] }):=ab (by unfold cn;rw[<-uh HU,gJ,if_pos rfl,yP hus]);have aq:s.pos<ws.length:=(xQ (by rw[<-uh HU];omega)).2;have ZN:=uJ s.vars u[0];obtain⟨j,hj⟩:∃j,j=plc s.vars u[0]:=⟨_,rfl⟩;have HJ:=ab hj;rw[<-hj]at ZN;clear hj;obtain⟨ao,cap,rfl,hm,_⟩:=kD cW.2.2.2.1;obtain⟨c1,c2,c3,c4,c5,fz⟩:=cW.readsV;have f1:=fz 1;have vP:=ab cW;clear fz c2 c3 c4 c5 cW;go_enter func215,ntmps215;go_wp2_with (first|(go_at_call 160;refine(uh HK).mono ?_;rintro e w' ⟨rfl,n,rfl⟩)|(go_at_call 248;refine(l6 u _).mono ?_;rintro e w' ⟨rfl,rfl⟩))
  have qT:=((uh vP).drewN n).setPos (s.pos+1);have mZ:ar F w F ((w.drewN n).setCell ⟨P,1,none⟩ (.int .i64 ((s.pos:Int)+1))):=((ar.refl F w).drewN n).setCell (zq0 (uh HQ).m.memP) _;rw[show(((s.pos+1:Nat)):Int)=(s.pos:Int)+1 by omega]at qT;generalize (w.drewN n).setCell ⟨P,1,none⟩ (.int .i64 ((s.pos:Int)+1))=w1 at qT mZ ⊢;clear c1 f1;obtain⟨_,_,c3,_,_,fz⟩:=qT.readsV;have f3:=fz 3;have aR:=qT.2.2.2.1;have HR:=ab aR;have wJ:=ab qT;have cK:=ab mZ;clear fz qT mZ aR;have xu:P<w1.heap.size:=((uh wJ).is.mem P (uh wJ).is.memP).2;have S0:B<=w1.heap.size:=by have:=((uh wJ).is.mem P (uh wJ).is.memP).1;omega
  have C5:Hid ((Value.slice ao s.vars.length cap).ownBlock≠some P):=ab (λe=>(uh wJ).apart.1 P (by simp[e]) rfl);by_cases eu:j=s.vars.length
  .have hjt:((j:Int)==(s.vars.length:Int))=true:=(by simp[eu]);have XC:=ab eu;clear eu;have c3a:∀(k:Nat) (o:Obj),((w1.drewN k).alloc o).cell? ⟨P,3,none⟩=some (.slice ao s.vars.length cap):=λk o=>(cell?_of_block (a:=⟨P,3,none⟩) (heap_alloc (w1.drewN k) o P xu)).trans c3;go_quiet ((go_at_call 212;exact jt (uh HJ) (uh HR) (by omega)))
   go_wp2_with fail
   go_region_law (refine ix _ rfl (.tmp 38) (.tmp 41) 101 rfl B 5 i0 (.int .u8 0) 1 1 underlying101 hi eo ep eK rfl (by decide) (.slice ao s.vars.length cap) s.vars.length (bc s.vars) (by simp[Act.eval]) (re (uh HR) _ _) ⟨w1.heap.size,0,none⟩ 1 [.int .u8 (u[0].toNat:Int)] (by simp[Act.eval]) rfl (Pj _ _ _ _) (uE _) (by omega) (by omega) (xN S0 _ _) ?_;intro g2 cap2 w2 aT aO dq;have c3':=gj aO xu (uh C5) 3 c3;have f3':=d9 aO xu (uh C5) 3 f3;have Vz:=ab aT;have HG2:=ab aO;have cg:=ab dq;clear aT aO dq)
   all_goals
    go_wp2_with fail
    go_ret;obtain⟨F',YL,YV⟩:=dd.pushVars u[0] ((uh wJ).drewN _) (uh HG2) (uh Vz) (uh cg);refine⟨bm (by rw[uh HI,<-uh HJ]),F',⟨?_,?_⟩,((uh cK).drewN _).trans YV⟩
    .rw[uh HS];unfold put;rw[if_pos (by rw[<-uh HJ];exact uh XC)];exact YL
    .rw[uh HS];exact(uh HQ).f.va aq _
  .have hjt:((j:Int)==(s.vars.length:Int))=false:=(by simp;omega);have XC:=ab eu;clear eu;go_quiet ((go_at_call 212;exact jt (uh HJ) (uh HR) (by omega)))
   go_wp2_with fail
   go_ret;refine⟨bm (by rw[uh HI,<-uh HJ]),F,⟨?_,?_⟩,(uh cK).drewN _⟩
   .rw[uh HS];unfold put;rw[if_neg (by rw[<-uh HJ];exact uh XC)];exact(uh wJ).is.drewN _
   .rw[uh HS];exact(uh HQ).f.va aq _
end
def m7:ByteArray:=⟨#[110,105,108]⟩
def ej(ws:List ByteArray)(s:PS):Nat:=if cL ws m7 s then 0 else 1
def fB(ws:List ByteArray)(s:PS):Nat:=if cL ws m7 s then 0 else rR ws s
def cO(ws:List ByteArray)(s:PS):PS:=if cL ws m7 s then s.adv else cn ws s
section
variable {B:Nat} {WV:Value} {w:World} {P:Nat} {ws:List ByteArray} {s:PS} {F:List Nat}
theorem bF{w1:World}{F':List Nat}{xs:Array Value}{T:TypeId}(h0:kw B WV w P ws s F)(hS:ar F (w.alloc (.cells xs T)) F' w1):
  w1.heap[w.heap.size]?=some (.cells xs T (0,0))/\w.heap.size ∉ F'/\w.heap.size<w1.heap.size:=by
 have hn:w.heap.size ∉ F:=λhm=>by have:=(h0.mem _ hm).2;omega
 refine⟨?_,?_,?_⟩
 .rw[hS.block _ (by simp) hn];exact heap_alloc_new w _
 .intro hm;rcases hS.foot _ hm with h|h
  .exact hn h
  .simp at h;omega
 .have:=hS.size;simp at this;omega
theorem ay{w0 w1:World}{F':List Nat}{r:Nat}{o:Obj}(hr:w0.heap[r]?=some o)(hn:r ∉ F)(hS:ar F w0 F' w1):w1.heap[r]?=some o/\r ∉ F'/\r<w1.heap.size:=by
 have hl:=(Array.getElem?_eq_some_iff.1 hr).1;refine⟨?_,?_,?_⟩
 .rw[hS.block _ hl hn];exact hr
 .intro hm;rcases hS.foot _ hm with h|h
  .exact hn h
  .omega
 .have:=hS.size;omega
theorem jz{r:Nat}{a b:Value}{T:TypeId}(h:w.heap[r]?=some (.cells #[a,b] T (0,0))):(w.cell? ⟨r,0,none⟩=some a/\w.cell? ⟨r,1,none⟩=some b)/\w.frozen? ⟨r,0,none⟩=false/\w.frozen? ⟨r,1,none⟩=false:=by
 refine⟨⟨?_,?_⟩,?_,?_⟩ <;> simp[World.cell?,World.frozen?,h]
theorem dP.alloc(h:dP B WV w P ws s F)(o:Obj):dP B WV (w.alloc o) P ws s F:=⟨h.m.alloc o,h.f⟩
theorem dP.setOther(h:dP B WV w P ws s F){p:Addr}(hp:p.block ∉ F)(u:Value):dP B WV (w.setCell p u) P ws s F:=⟨h.m.setOther hp u,h.f⟩
theorem gt(h:dP B WV w P ws s F):
  Calls prog 213 #[.pointer (some ⟨P,0,none⟩)] w λe w'=>e=.returned (.agg #[.int .i64 (ej ws s),.int .i64 (fB ws s)])/\∃F',dP B WV w' P ws (cO ws s) F'/\ar F w F' w':=by
 have HQ:=ab h;have HA:=λo=>ab (aA m7 (by decide) (h.alloc o));clear h;cases hb:cL ws m7 s with
 |true =>
  have HK:Hid (ej ws s=0):=ab (if_pos hb);have HI:Hid (fB ws s=0):=ab (if_pos hb);have HS:Hid (cO ws s=kx ws m7 s):=ab (by unfold cO kx;rw[if_pos hb,if_pos hb]);simp only[hb]at HA;clear hb;go_enter func213,ntmps213;go_wp2_with (go_at_call 158;refine(uh (HA _)).mono ?_;rintro e w' ⟨rfl,hI,hS⟩;obtain⟨hb,hn,hl⟩:=bF (uh HQ).m hS;obtain⟨⟨d0,d1⟩,e0,e1⟩:=jz hb;have dc:=ab hI;have cH:=ab hS;clear hI hS hb)
  refine bodyPost_ret (v:=.agg #[.int .i64 0,.int .i64 0]) (by simp[results,Tryz.results213,go_sem,d0,d1]) rfl ⟨by rw[uh HK,uh HI];rfl,F,?_,?_⟩
  .rw[uh HS];exact((uh dc).setOther hn _).setOther hn _
  .exact((((ar.refl F w).alloc _).trans (uh cH)).setCell (zq1 (zq4 _)) _).setCell (zq1 (zq4 _)) _
 |false =>
  have HK:Hid (ej ws s=1):=ab (if_neg (by simp[hb]));have HI:Hid (fB ws s=rR ws s):=ab (if_neg (by simp[hb]));have HS:Hid (cO ws s=cn ws s):=ab (if_neg (by simp[hb]));have qf:Hid (kx ws m7 s=s):=ab (if_neg (by simp[hb]));simp only[hb]at HA;clear hb;go_enter func213,ntmps213;go_wp2_with (go_at_call 158;refine(uh (HA _)).mono ?_;rintro e w' ⟨rfl,hI,hS⟩;obtain⟨hb,hn,hl⟩:=bF (uh HQ).m hS;rw[uh qf]at hI;have dc:=ab hI;have cH:=ab hS;have HB:=ab hb;clear hI hS hb)
  refine(ek (uh dc)).mono ?_;rintro e w2 ⟨rfl,F',ec,bZ⟩;obtain⟨cB,vE,N2⟩:=ay (uh HB) hn bZ;obtain⟨⟨d0,d1⟩,e0,e1⟩:=jz cB;have gU:=ab ec;have fV:=ab bZ;clear ec bZ cB;go_wp2_with fail
  refine bodyPost_ret (v:=.agg #[.int .i64 1,.int .i64 (rR ws s)]) (by simp[results,Tryz.results213,go_sem,d0,d1]) rfl ⟨by rw[uh HK,uh HI];rfl,F',?_,?_⟩
  .rw[uh HS];exact((uh gU).setOther vE _).setOther vE _
  .exact(((((ar.refl F w).alloc _).trans (uh cH)).trans (uh fV)).setCell (zq1 (zq4 _)) _).setCell (zq1 (zq4 _)) _
end
def rm(ws:List ByteArray)(s:PS):Nat:=if lz (pk ws s) then 2 else ej ws s
def rl(ws:List ByteArray)(s:PS):Nat:=if lz (pk ws s) then plc s.hid (BQ (pk ws s)) else fB ws s
def ev(ws:List ByteArray)(s:PS):PS:=if lz (pk ws s) then { s with pos:=s.pos+1,hid:=put s.hid (BQ (pk ws s)) } else cO ws s
theorem Qu{u:ByteArray}(h:lz u=true):u.size=1:=by
 by_cases hs:u.size=1
 .exact hs
 .rw[IS u hs]at h;cases h
section
variable {B:Nat} {WV:Value} {w:World} {P:Nat} {ws:List ByteArray} {s:PS} {F:List Nat} {wv vv hv nv:Value}
theorem CW.te(h:CW ws s)(hp:s.pos<ws.length)(c:UInt8):CW ws { s with pos:=s.pos+1,hid:=put s.hid c }:=by
 obtain⟨a,b,d,e⟩:=h;have:=PD s.hid c;simp only[CW];omega
theorem pY(h:dP B WV w P ws s F):
  Calls prog 184 #[.pointer (some ⟨P,0,none⟩)] w λe w'=>e=.returned (.agg #[.int .i64 (rm ws s),.int .i64 (rl ws s)])/\∃F',dP B WV w' P ws (ev ws s) F'/\ar F w F' w':=by
 obtain⟨i0,hi,eo,ep,eK⟩:=info_parts infoByte;have HQ:=ab h;obtain⟨w0,lm⟩:∃w0,w0=w.alloc (.cells #[.int .i64 0,.int .i64 0] 184):=⟨_,rfl⟩;have h0:dP B WV w0 P ws s F:=by rw[lm];exact h.alloc _
 have XL:Hid (ar F w F w0):=ab (by rw[lm];exact(ar.refl F w).alloc _);have IX:Hid (w0.heap[w.heap.size]?=some (.cells #[.int .i64 0,.int .i64 0] 184 (0,0))):=ab (by rw[lm];exact heap_alloc_new w _);have XF:Hid (w.heap.size ∉ F):=ab (λhm=>by have:=(h.m.mem _ hm).2;omega);have XO:=ab lm;clear lm;have XJ:=ab h0;have HK:=ab (jZ h0);obtain⟨wv,vv,hv,nv,cW⟩:=h0.m.named;obtain⟨hl,hp,qp,hhl⟩:=h.f;clear h h0;obtain⟨u,hu⟩:∃u,u=pk ws s:=⟨_,rfl⟩;have HU:=ab hu;rw[<-hu]at HK;clear hu;cases gJ:lz u with
 |false =>
  have HIK:Hid (rm ws s=ej ws s):=ab (by unfold rm;rw[<-uh HU,gJ];rfl);have HII:Hid (rl ws s=fB ws s):=ab (by unfold rl;rw[<-uh HU,gJ];rfl);have HS:Hid (ev ws s=cO ws s):=ab (by unfold ev;rw[<-uh HU,gJ];rfl);clear cW;go_enter func184,ntmps184;go_wp2_with (first|(rw[<-uh XO];go_at_call 160;refine(uh HK).mono ?_;rintro e w' ⟨rfl,n,rfl⟩)|(go_at_call 211;refine(pF u _).mono ?_;rintro e w' ⟨rfl,rfl⟩))
  refine(gt (w:=w0.drewN n) ⟨(uh XJ).m.drewN n,(uh XJ).f⟩).mono ?_;rintro e w2 ⟨rfl,F',ec,bZ⟩;obtain⟨cB,vE,N2⟩:=ay (w0:=w0.drewN n) (uh IX) (uh XF) bZ;obtain⟨⟨d0,d1⟩,e0,e1⟩:=jz cB;have gU:=ab ec;have fV:=ab bZ;clear ec bZ cB;go_wp2_with fail
  refine bodyPost_ret (v:=.agg #[.int .i64 (ej ws s),.int .i64 (fB ws s)]) (by simp[results,Tryz.results184,go_sem,d0,d1]) rfl ⟨by rw[uh HIK,uh HII],F',?_,?_⟩
  .rw[uh HS];exact((uh gU).setOther vE _).setOther vE _
  .exact((((uh XL).drewN n).trans (uh fV)).setCell (zq1 (zq4 _)) _).setCell (zq1 (zq4 _)) _
 |true =>
  have hus:0<u.size:=by rw[Qu gJ];omega
  have HIK:Hid (rm ws s=2):=ab (by unfold rm;rw[<-uh HU,gJ,if_pos rfl]);have HI:Hid (rl ws s=plc s.hid u[0]):=ab (by unfold rl;rw[<-uh HU,gJ,if_pos rfl,yP hus]);have HS:Hid (ev ws s={ s with pos:=s.pos+1,hid:=put s.hid u[0] }):=ab (by unfold ev;rw[<-uh HU,gJ,if_pos rfl,yP hus]);have aq:s.pos<ws.length:=(xQ (by rw[<-uh HU];omega)).2;have ZN:=uJ s.hid u[0];obtain⟨j,hj⟩:∃j,j=plc s.hid u[0]:=⟨_,rfl⟩;have HJ:=ab hj;rw[<-hj]at ZN;clear hj;obtain⟨ao,cap,rfl,hm,_⟩:=kD cW.2.2.2.2.1;obtain⟨c1,c2,c3,c4,c5,fz⟩:=cW.readsV;have f1:=fz 1;have vP:=ab cW;clear fz c2 c3 c4 c5 cW;go_enter func184,ntmps184;go_wp2_with (first|(rw[<-uh XO];go_at_call 160;refine(uh HK).mono ?_;rintro e w' ⟨rfl,n,rfl⟩)|(go_at_call 211;refine(pF u _).mono ?_;rintro e w' ⟨rfl,rfl⟩))
  have qT:=((uh vP).drewN n).setPos (s.pos+1);have mZ:ar F w0 F ((w0.drewN n).setCell ⟨P,1,none⟩ (.int .i64 ((s.pos:Int)+1))):=((ar.refl F w0).drewN n).setCell (zq0 (uh HQ).m.memP) _;rw[show(((s.pos+1:Nat)):Int)=(s.pos:Int)+1 by omega]at qT;generalize (w0.drewN n).setCell ⟨P,1,none⟩ (.int .i64 ((s.pos:Int)+1))=w1 at qT mZ ⊢;clear c1 f1;obtain⟨a7,jF,vD⟩:=ay (uh IX) (uh XF) mZ;have dm:=ab a7;clear a7;obtain⟨_,_,_,c4,_,fz⟩:=qT.readsV;have f4:=fz 4;have aR:=qT.2.2.2.2.1;have HR:=ab aR;have wJ:=ab qT;have cK:=ab mZ;clear fz qT mZ aR;have xu:P<w1.heap.size:=((uh wJ).is.mem P (uh wJ).is.memP).2;have S0:B<=w1.heap.size:=by have:=((uh wJ).is.mem P (uh wJ).is.memP).1;omega
  have C5:Hid ((Value.slice ao s.hid.length cap).ownBlock≠some P):=ab (λe=>(uh wJ).apart.1 P (by simp[e]) rfl);by_cases eu:j=s.hid.length
  .have hjt:((j:Int)==(s.hid.length:Int))=true:=(by simp[eu]);have XC:=ab eu;clear eu;have c4a:∀(k:Nat) (o:Obj),((w1.drewN k).alloc o).cell? ⟨P,4,none⟩=some (.slice ao s.hid.length cap):=λk o=>(cell?_of_block (a:=⟨P,4,none⟩) (heap_alloc (w1.drewN k) o P xu)).trans c4;go_quiet ((go_at_call 212;exact jt (uh HJ) (uh HR) (by omega)))
   go_wp2_with fail
   go_region_law (refine ix _ rfl (.tmp 34) (.tmp 37) 101 rfl B 5 i0 (.int .u8 0) 1 1 underlying101 hi eo ep eK rfl (by decide) (.slice ao s.hid.length cap) s.hid.length (bc s.hid) (by simp[Act.eval]) (re (uh HR) _ _) ⟨w1.heap.size,0,none⟩ 1 [.int .u8 (u[0].toNat:Int)] (by simp[Act.eval]) rfl (Pj _ _ _ _) (uE _) (by omega) (by omega) (xN S0 _ _) ?_;intro g2 cap2 w2 aT aO dq;have c4':=gj aO xu (uh C5) 4 c4;have f4':=d9 aO xu (uh C5) 4 f4;obtain⟨F',YL,YV⟩:=dd.pushHid u[0] ((uh wJ).drewN _) aO aT dq;have vq:=ab YL;have HS':=ab YV;clear aT aO dq YL YV)
   all_goals
    obtain⟨cB,vE,N2⟩:=ay (w0:=w1.drewN _) (uh dm) jF (uh HS');generalize GT:World.setCell _ (⟨P,4,none⟩:Addr) _=w3 at vq HS' cB N2 ⊢;obtain⟨⟨d0,d1⟩,e0,e1⟩:=jz cB;clear cB GT;go_wp2_with fail
    refine bodyPost_ret (v:=.agg #[.int .i64 2,.int .i64 j]) (by simp[results,Tryz.results184,go_sem,d0,d1]) rfl ⟨by rw[uh HIK,uh HI,<-uh HJ];rfl,F',⟨?_,?_⟩,?_⟩
    .rw[uh HS];unfold put;rw[if_pos (by rw[<-uh HJ];exact uh XC)];exact((uh vq).setOther vE _).setOther vE _
    .rw[uh HS];exact(uh HQ).f.te aq _
    .exact((((uh XL).trans ((uh cK).drewN _)).trans (uh HS')).setCell (zq1 (zq4 _)) _).setCell (zq1 (zq4 _)) _
  .have hjt:((j:Int)==(s.hid.length:Int))=false:=(by simp;omega);have XC:=ab eu;clear eu;obtain⟨⟨d0,d1⟩,e0,e1⟩:=jz (uh dm);go_quiet ((go_at_call 212;exact jt (uh HJ) (uh HR) (by omega)))
   go_wp2_with fail
   refine bodyPost_ret (v:=.agg #[.int .i64 2,.int .i64 j]) (by simp[results,Tryz.results184,go_sem,d0,d1]) rfl ⟨by rw[uh HIK,uh HI,<-uh HJ];rfl,F,⟨?_,?_⟩,?_⟩
   .rw[uh HS];unfold put;rw[if_neg (by rw[<-uh HJ];exact uh XC)];exact(((uh wJ).is.drewN _).setOther jF _).setOther jF _
   .rw[uh HS];exact(uh HQ).f.te aq _
   .exact((((uh XL).trans (uh cK)).drewN _).setCell (zq1 (zq4 _)) _).setCell (zq1 (zq4 _)) _
end
def m6:ByteArray:=⟨#[61]⟩
def wo:ByteArray:=⟨#[33,61]⟩
def WU:ByteArray:=⟨#[45,62]⟩
def eX:ByteArray:=⟨#[40]⟩
def l8:ByteArray:=⟨#[44]⟩
def gY:ByteArray:=⟨#[41]⟩
def oB:ByteArray:=⟨#[101,109,112]⟩
def G7:ByteArray:=⟨#[108,115]⟩
def dO:ByteArray:=⟨#[42]⟩
def iY(ws:List ByteArray)(s:PS):Nat:=if cL ws m6 s then 1 else if cL ws wo s then 2 else 3
def eg(ws:List ByteArray)(s:PS):PS:=if cL ws m6 s then s.adv else if cL ws wo s then s.adv else bp ws WU s
structure bC where
 k:Nat
 lk:Nat
 li:Nat
 rk:Nat
 ri:Nat
def bC.cells(a:bC):List Value:=[.int .i64 a.k,.int .i64 a.lk,.int .i64 a.li,.int .i64 a.rk,.int .i64 a.ri]
section
variable {B:Nat} {WV:Value} {w:World} {P:Nat} {ws:List ByteArray} {s:PS} {F:List Nat} {wv vv hv nv:Value}
theorem zM(h:dP B WV w P ws s F):
  Calls prog 185 #[.pointer (some ⟨P,0,none⟩)] w λe w'=>e=.returned (.int .i64 (iY ws s))/\dP B WV w' P ws (eg ws s) F/\ar F w F w':=by
 have HQ:=ab h;have HA:=ab (aA m6 (by decide) h);clear h;cases hb:cL ws m6 s with
 |true =>
  have HK:Hid (iY ws s=1):=ab (if_pos hb);have HS:Hid (eg ws s=kx ws m6 s):=ab (by unfold eg kx;rw[if_pos hb,if_pos hb]);simp only[hb]at HA;clear hb;go_enter func185,ntmps185;go_wp2_with (go_at_call 158;refine(uh HA).mono ?_;rintro e w' ⟨rfl,hI,hS⟩)
  go_ret;exact⟨bm (by rw[uh HK];rfl),by rw[uh HS];exact hI,hS⟩
 |false =>
  have qf:Hid (kx ws m6 s=s):=ab (if_neg (by simp[hb]));simp only[hb]at HA;cases aL:cL ws wo s with
  |true =>
   have HK:Hid (iY ws s=2):=ab (by unfold iY;rw[hb,aL];rfl);have HS:Hid (eg ws s=kx ws wo s):=ab (by unfold eg kx;rw[hb,aL];rfl);have cg:=ab aL;clear hb aL;go_enter func185,ntmps185;go_wp2_with fail
   refine(uh HA).mono ?_;rintro e w1 ⟨rfl,hI,hS⟩;rw[uh qf]at hI;have lA:=aA wo (by decide) hI;rw[uh cg]at lA;have lA:=ab lA;clear hI;have bT:=ab hS;clear hS;go_wp2_with fail
   refine(uh lA).mono ?_;rintro e w2 ⟨rfl,bP,bE⟩;go_wp2_with fail
   go_ret;exact⟨bm (by rw[uh HK];rfl),by rw[uh HS];exact bP,(uh bT).trans bE⟩
  |false =>
   have HK:Hid (iY ws s=3):=ab (by unfold iY;rw[hb,aL];rfl);have HS:Hid (eg ws s=bp ws WU s):=ab (by unfold eg;rw[hb,aL];rfl);have Ly:Hid (kx ws wo s=s):=ab (if_neg (by simp[aL]));have cg:=ab aL;clear hb aL;go_enter func185,ntmps185;go_wp2_with fail
   refine(uh HA).mono ?_;rintro e w1 ⟨rfl,hI,hS⟩;rw[uh qf]at hI;have lA:=aA wo (by decide) hI;rw[uh cg,uh Ly]at lA;have lA:=ab lA;clear hI;have bT:=ab hS;clear hS;go_wp2_with fail
   refine(uh lA).mono ?_;rintro e w2 ⟨rfl,bP,bE⟩;have HE:=ab (aV WU (by decide) bP);clear bP;go_wp2_with fail
   refine(uh HE).mono ?_;rintro e w3 ⟨rfl,ec,bZ⟩;go_wp2_with fail
   go_ret;exact⟨bm (by rw[uh HK];rfl),by rw[uh HS];exact ec,((uh bT).trans bE).trans bZ⟩
theorem yu{r:Nat}{a b c d e:Value}{T:TypeId}(h:w.heap[r]?=some (.cells #[a,b,c,d,e] T (0,0))):
  (w.cell? ⟨r,0,none⟩=some a/\w.cell? ⟨r,1,none⟩=some b/\w.cell? ⟨r,2,none⟩=some c/\w.cell? ⟨r,3,none⟩=some d/\w.cell? ⟨r,4,none⟩=some e) /\
  w.frozen? ⟨r,0,none⟩=false/\w.frozen? ⟨r,1,none⟩=false/\w.frozen? ⟨r,2,none⟩=false/\w.frozen? ⟨r,3,none⟩=false/\w.frozen? ⟨r,4,none⟩=false:=by
 refine⟨⟨?_,?_,?_,?_,?_⟩,?_,?_,?_,?_,?_⟩ <;> simp[World.cell?,World.frozen?,h]
def pJ(ws:List ByteArray)(s:PS):PS:=bp ws eX s
def oF(ws:List ByteArray)(s:PS):PS:=bp ws l8 (ev ws (pJ ws s))
def zq(ws:List ByteArray)(s:PS):PS:=bp ws gY (ev ws (oF ws s))
def WX(ws:List ByteArray)(s:PS):bC:=⟨4,rm ws (pJ ws s),rl ws (pJ ws s),rm ws (oF ws s),rl ws (oF ws s)⟩
theorem OP(h:dP B WV w P ws s F):
  Calls prog 183 #[.pointer (some ⟨P,0,none⟩)] w λe w'=>e=.returned (.agg (WX ws s).cells.toArray)/\∃F',dP B WV w' P ws (zq ws s) F'/\ar F w F' w':=by
 have HQ:=ab h;have HA:=λo=>ab (aV eX (by decide) (h.alloc o));clear h;go_enter func183,ntmps183;go_wp2_with fail
 refine(uh (HA _)).mono ?_;rintro e w1 ⟨rfl,df,bq⟩;obtain⟨a7,jF,vD⟩:=bF (uh HQ).m bq;have dm:=ab a7;have dD:=ab df;have bT:=ab (((ar.refl F w).alloc _).trans bq);clear a7 df bq;go_wp2_with fail
 refine(pY (uh dD)).mono ?_;rintro e w2 ⟨rfl,F2,bP,bE⟩;obtain⟨aL,qQ,sP⟩:=ay (uh dm) jF bE;have cg:=ab aL;have dc:=ab bP;have cH:=ab ((uh bT).trans bE);clear aL bP bE;go_wp2_with fail
 refine(aV l8 (by decide) ((uh dc).alloc _)).mono ?_;rintro e w3 ⟨rfl,ec,bZ⟩;obtain⟨cB,vE,N2⟩:=ay (uh cg) qQ (((ar.refl F2 w2).alloc _).trans bZ);obtain⟨hc3,wd,BW⟩:=bF (uh dc).m bZ;have oL:=ab cB;have HC3:=ab hc3;have gU:=ab ec;have fV:=ab ((uh cH).trans (((ar.refl F2 w2).alloc _).trans bZ));clear cB hc3 ec bZ;go_wp2_with fail
 refine(pY (uh gU)).mono ?_;rintro e w4 ⟨rfl,F4,kZ,er⟩;obtain⟨mA,N9,hl4⟩:=ay (uh oL) vE er;obtain⟨Wn,AB,ue⟩:=ay (uh HC3) wd er;have qt:=ab mA;have HC4:=ab Wn;have mU:=ab kZ;have kt:=ab ((uh fV).trans er);clear mA Wn kZ er;go_wp2_with fail
 refine(aV gY (by decide) ((uh mU).alloc _)).mono ?_;rintro e w5 ⟨rfl,qO,eT⟩;have Tj:=((ar.refl F4 w4).alloc _).trans eT;obtain⟨cD,B0,Ww⟩:=ay (uh qt) N9 Tj;obtain⟨hc5,hm5,Eu⟩:=ay (uh HC4) AB Tj;obtain⟨hd5,ho5,hp5⟩:=bF (uh mU).m eT;obtain⟨⟨a0,a1,a2,a3,a4⟩,g0,g1,g2,g3,g4⟩:=yu cD;obtain⟨⟨d0,d1⟩,e0,e1⟩:=jz hc5;obtain⟨⟨x0,x1⟩,y0,y1⟩:=jz hd5;have FF:=ab qO;have rT:=ab ((uh kt).trans Tj);clear cD hc5 hd5 qO eT Tj;go_wp2_with fail
 refine bodyPost_ret (v:=.agg (WX ws s).cells.toArray) (by simp[results,Tryz.results183,go_sem,a0,a1,a2,a3,a4,WX,bC.cells,pJ,oF]) rfl ⟨rfl,F4,?_,?_⟩
 .exact(((((uh FF).setOther B0 _).setOther B0 _).setOther B0 _).setOther B0 _).setOther B0 _
 .exact(((((uh rT).setCell (zq1 (zq4 _)) _).setCell (zq1 (zq4 _)) _).setCell (zq1 (zq4 _)) _).setCell (zq1 (zq4 _)) _).setCell (zq1 (zq4 _)) _
end
def dH(ws:List ByteArray)(s:PS):PS:=if cL ws oB s then s.adv else if cL ws G7 s then zq ws s.adv else ev ws (eg ws (ev ws s))
def nS(ws:List ByteArray)(s:PS):bC :=
 if cL ws oB s then ⟨0,0,0,0,0⟩ else if cL ws G7 s then WX ws s.adv else ⟨iY ws (ev ws s),rm ws s,rl ws s,rm ws (eg ws (ev ws s)),rl ws (eg ws (ev ws s))⟩
def aW(l:List bC):List Value:=l.flatMap bC.cells
def fW(ws:List ByteArray):Nat->PS->List bC × PS
 |0,s=>([],s)
 |n+1,s=>if cL ws dO s then (nS ws s.adv::(fW ws n (dH ws s.adv)).1,(fW ws n (dH ws s.adv)).2) else ([],s)
def Bu(ws:List ByteArray)(s:PS):List bC:=nS ws s::(fW ws (ws.length+1) (dH ws s)).1
def po(ws:List ByteArray)(s:PS):PS:=(fW ws (ws.length+1) (dH ws s)).2
section
variable {ws:List ByteArray} {s:PS}
theorem cQ:s.pos<=s.adv.pos:=Nat.le_succ _
theorem ca(k:ByteArray):s.pos<=(bp ws k s).pos:=by unfold bp;split;exact cQ;exact zq4 _
theorem qb:s.pos<=(cn ws s).pos:=by unfold cn;split;exact Nat.le_succ _;exact zq4 _
theorem gT:s.pos<=(cO ws s).pos:=by unfold cO;split;exact cQ;exact qb
theorem tf:s.pos<=(ev ws s).pos:=by unfold ev;split;exact Nat.le_succ _;exact gT
theorem PN:s.pos<=(eg ws s).pos:=by unfold eg;split;exact cQ;split;exact cQ;exact ca _
theorem TY:s.pos<=(zq ws s).pos:=by
 unfold zq oF pJ;exact zq3 (zq3 (zq3 (zq3 (ca _) tf) (ca _)) tf) (ca _)
theorem RZ:s.pos<=(dH ws s).pos:=by
 unfold dH;split
 .exact cQ
 .split
  .exact zq3 cQ TY
  .exact zq3 (zq3 tf PN) tf
end
section
variable {B:Nat} {WV:Value} {w:World} {P:Nat} {ws:List ByteArray} {s:PS} {F:List Nat} {wv vv hv nv:Value}
theorem AZ(h:dP B WV w P ws s F):
  Calls prog 159 #[.pointer (some ⟨P,0,none⟩)] w λe w'=>e=.returned (.agg (nS ws s).cells.toArray)/\∃F',dP B WV w' P ws (dH ws s) F'/\ar F w F' w':=by
 have HQ:=ab h;have HA:=λo=>ab (aA oB (by decide) (h.alloc o));clear h;cases hb:cL ws oB s with
 |true =>
  have HK:Hid (nS ws s=⟨0,0,0,0,0⟩):=ab (if_pos hb);have HS:Hid (dH ws s=kx ws oB s):=ab (by unfold dH kx;rw[if_pos hb,if_pos hb]);simp only[hb]at HA;clear hb;go_enter func159,ntmps159;go_wp2_with fail
  refine(uh (HA _)).mono ?_;rintro e w1 ⟨rfl,df,bq⟩;obtain⟨a7,jF,vD⟩:=bF (uh HQ).m bq;obtain⟨⟨a0,a1,a2,a3,a4⟩,g0,g1,g2,g3,g4⟩:=yu a7;have dD:=ab df;have bT:=ab (((ar.refl F w).alloc _).trans bq);clear a7 df bq;go_wp2_with fail
  refine bodyPost_ret (v:=.agg #[.int .i64 0,.int .i64 0,.int .i64 0,.int .i64 0,.int .i64 0]) (by simp[results,Tryz.results159,go_sem,a0,a1,a2,a3,a4]) rfl ⟨by rw[uh HK];rfl,F,?_,?_⟩
  .rw[uh HS];exact(((((uh dD).setOther jF _).setOther jF _).setOther jF _).setOther jF _).setOther jF _
  .exact(((((uh bT).setCell (zq1 (zq4 _)) _).setCell (zq1 (zq4 _)) _).setCell (zq1 (zq4 _)) _).setCell (zq1 (zq4 _)) _).setCell (zq1 (zq4 _)) _
 |false =>
  have qf:Hid (kx ws oB s=s):=ab (if_neg (by simp[hb]));simp only[hb]at HA;cases aL:cL ws G7 s with
  |true =>
   have HK:Hid (nS ws s=WX ws s.adv):=ab (by unfold nS;rw[hb,aL];rfl);have HS:Hid (dH ws s=zq ws s.adv):=ab (by unfold dH;rw[hb,aL];rfl);have Ly:Hid (kx ws G7 s=s.adv):=ab (if_pos aL);have cg:=ab aL;clear hb aL;go_enter func159,ntmps159;go_wp2_with fail
   refine(uh (HA _)).mono ?_;rintro e w1 ⟨rfl,df,bq⟩;obtain⟨a7,jF,vD⟩:=bF (uh HQ).m bq;rw[uh qf]at df;have dm:=ab a7;have bT:=ab (((ar.refl F w).alloc _).trans bq);have lA:=aA G7 (by decide) df;rw[uh cg,uh Ly]at lA;replace lA:=ab lA
   clear a7 df bq;go_wp2_with fail
   refine(uh lA).mono ?_;rintro e w2 ⟨rfl,bP,bE⟩;obtain⟨aL,qQ,sP⟩:=ay (uh dm) jF bE;have cg:=ab aL;have dc:=ab bP;have cH:=ab ((uh bT).trans bE);clear aL bP bE;go_wp2_with fail
   refine(OP (uh dc)).mono ?_;rintro e w3 ⟨rfl,F3,ec,bZ⟩;obtain⟨cB,vE,N2⟩:=ay (uh cg) qQ bZ;obtain⟨⟨a0,a1,a2,a3,a4⟩,g0,g1,g2,g3,g4⟩:=yu cB;have gU:=ab ec;have fV:=ab ((uh cH).trans bZ);clear cB ec bZ;obtain⟨k0,k1,k2,k3,k4,Y7⟩:∃k0 k1 k2 k3 k4,WX ws s.adv=⟨k0,k1,k2,k3,k4⟩:=⟨_,_,_,_,_,rfl⟩;rw[Y7]at HK ⊢;clear Y7;simp only[bC.cells];go_wp2_with fail
   refine bodyPost_ret (v:=.agg #[.int .i64 k0,.int .i64 k1,.int .i64 k2,.int .i64 k3,.int .i64 k4]) (by simp[results,Tryz.results159,go_sem,a0,a1,a2,a3,a4]) rfl ⟨by rw[uh HK];rfl,F3,?_,?_⟩
   .rw[uh HS];exact(((((uh gU).setOther vE _).setOther vE _).setOther vE _).setOther vE _).setOther vE _
   .exact(((((uh fV).setCell (zq1 (zq4 _)) _).setCell (zq1 (zq4 _)) _).setCell (zq1 (zq4 _)) _).setCell (zq1 (zq4 _)) _).setCell (zq1 (zq4 _)) _
  |false =>
   have HK:Hid (nS ws s=⟨iY ws (ev ws s),rm ws s,rl ws s,rm ws (eg ws (ev ws s)),rl ws (eg ws (ev ws s))⟩):=ab (by unfold nS;rw[hb,aL];rfl);have HS:Hid (dH ws s=ev ws (eg ws (ev ws s))):=ab (by unfold dH;rw[hb,aL];rfl);have Ly:Hid (kx ws G7 s=s):=ab (if_neg (by simp[aL]));have cg:=ab aL;clear hb aL;go_enter func159,ntmps159;go_wp2_with fail
   refine(uh (HA _)).mono ?_;rintro e w1 ⟨rfl,df,bq⟩;obtain⟨a7,jF,vD⟩:=bF (uh HQ).m bq;rw[uh qf]at df;have dm:=ab a7;have bT:=ab (((ar.refl F w).alloc _).trans bq);have lA:=aA G7 (by decide) df;rw[uh cg,uh Ly]at lA;replace lA:=ab lA
   clear a7 df bq;go_wp2_with fail
   refine(uh lA).mono ?_;rintro e w2 ⟨rfl,bP,bE⟩;obtain⟨aL,qQ,sP⟩:=ay (uh dm) jF bE;have cg:=ab aL;have dc:=ab bP;have cH:=ab ((uh bT).trans bE);clear aL bP bE;go_wp2_with fail
   refine(pY (uh dc)).mono ?_;rintro e w3 ⟨rfl,F3,ec,bZ⟩;obtain⟨cB,vE,N2⟩:=ay (uh cg) qQ bZ;have oL:=ab cB;have gU:=ab ec;have fV:=ab ((uh cH).trans bZ);clear cB ec bZ;go_wp2_with fail
   refine(zM ((uh gU).alloc _)).mono ?_;rintro e w4 ⟨rfl,kZ,er⟩;obtain⟨mA,N9,hl4⟩:=ay (uh oL) vE (((ar.refl F3 w3).alloc _).trans er);obtain⟨Wn,AB,ue⟩:=bF (uh gU).m er;have qt:=ab mA;have HC4:=ab Wn;have mU:=ab kZ;have kt:=ab ((uh fV).trans (((ar.refl F3 w3).alloc _).trans er));clear mA Wn kZ er;go_wp2_with fail
   refine(pY (uh mU)).mono ?_;rintro e w5 ⟨rfl,F5,qO,eT⟩;obtain⟨cD,B0,Ww⟩:=ay (uh qt) N9 eT;obtain⟨hc5,hm5,Eu⟩:=ay (uh HC4) AB eT;obtain⟨⟨a0,a1,a2,a3,a4⟩,g0,g1,g2,g3,g4⟩:=yu cD;obtain⟨⟨d0,d1⟩,e0,e1⟩:=jz hc5;have FF:=ab qO;have rT:=ab ((uh kt).trans eT);clear cD hc5 qO eT;go_wp2_with fail
   refine bodyPost_ret (v:=.agg #[.int .i64 (iY ws (ev ws s)),.int .i64 (rm ws s),.int .i64 (rl ws s),.int .i64 (rm ws (eg ws (ev ws s))),.int .i64 (rl ws (eg ws (ev ws s)))]) (by simp[results,Tryz.results159,go_sem,cell?_alloc_past,Ww,a0,a1,a2,a3,a4]) rfl ⟨by rw[uh HK];rfl,F5,?_,?_⟩
   .rw[uh HS];exact((((((uh FF).setOther B0 _).setOther B0 _).setOther B0 _).setOther B0 _).setOther B0 _).alloc _
   .exact((((((uh rT).setCell (zq1 (zq4 _)) _).setCell (zq1 (zq4 _)) _).setCell (zq1 (zq4 _)) _).setCell (zq1 (zq4 _)) _).setCell (zq1 (zq4 _)) _).alloc _
end
section
variable {P:Program} (w:World)
theorem aH {ops:Array Oper} {rest:List Oper} {o:Oper} {a:Act} {Q:Exit->Act->World->Prop}
  (hg:o.guard=none) (s x:Operand) (t:TypeId) (mC:o.op=Op.call { callee:=Callee.builtin Builtin.append,args:=#[s,x],argTypes:=#[t,t] })
  (base:Nat) (e:TypeId) (i:TypeInfo) (z:Value) (size bytes:Nat) (ht:P.underlying t=some (.slice e)) (hi:P.info? e=some i) (hz:i.zero=some z)
  (iN:i.size=size) (Em:i.bytes=bytes) (J4:z.cells.size=size) (ko:0<size)
  (v:Value) (n:Nat) (xs:List Value) (hs:a.eval s=v) (aN:w.ownsRow base e size v n xs)
  (ad:Addr) (c:Nat) (news:List Value) (hx:a.eval x=.slice (some ad) 1 c) (hl:news.length=size) (gK:∀j u,news[j]?=some u->w.cell? (ad.add j)=some u) (h1:∀u∈news,u.oneCell'=true)
  (Jy:n+1<=1000000) (hb:bytes<=1000) (jP:base<=w.heap.size)
  (hK:∀g cap w',w'.ownsRow base e size (.slice (some ⟨g,0,none⟩) (n+1) cap) (n+1) (xs++news)->w.grownBy w' v.ownBlock->(some g=v.ownBlock\/g=w.heap.size)->wpList P ops Q rest (a.put o.dst (.slice (some ⟨g,0,none⟩) (n+1) cap)) w') :
  wpList P ops Q (o::rest) a w:=by
 refine wpList_plain hg λK hK'=>?_;obtain⟨v',w',EE,r1,r2,r3,g,cap,rfl⟩:=CH (P:=P) w base t o.type e i z size bytes ht hi hz iN Em J4 ko v n xs aN ad c news hl gK h1 Jy hb jP;unfold Oper.wp;simp[execOp,mC,resolve,invoke,builtin,hs,hx,EE,Result.andThen];exact hK' _ _ (hK g cap w' r1 r2 (by simpa[Value.ownBlock] using r3))
end
theorem aP(w:World)(b:Nat)(hb:b=w.heap.size)(xs:List Value)(T:TypeId):∀(j:Nat) (u:Value),xs[j]?=some u->(w.alloc (.cells xs.toArray T)).cell? ((⟨b,0,none⟩:Addr).add j)=some u:=by
 intro j u hj;subst hb;rw[show(⟨w.heap.size,0,none⟩:Addr).add j=⟨w.heap.size,j,none⟩ by unfold Addr.add;split <;> simp_all];rw[cell?_alloc_mark];simpa using hj
theorem bC.one(a:bC):∀u∈a.cells,u.oneCell'=true:=by
 intro u hu;simp[bC.cells]at hu;rcases hu with rfl|rfl|rfl|rfl|rfl <;> rfl
theorem yq(l:List bC)(a:bC):aW (l++[a])=aW l++a.cells:=by simp[aW]
theorem infoAtom:(prog.info? 239).map (λi=>(i.zero,i.size,i.bytes))=some (some (.agg #[.int .i64 0,.int .i64 0,.int .i64 0,.int .i64 0,.int .i64 0]),5,40):=by kernel_rfl
theorem Ur(w:World)(b B:Nat)(hb:b=w.heap.size)(hB:B<=w.heap.size)(T:TypeId)(sz:Nat)(xs:List Value)(hx:xs.length=sz):(w.alloc (.cells xs.toArray T)).ownsRow B T sz (.slice (some ⟨b,0,none⟩) 1 1) 1 xs:=by
 subst hb;subst hx;exact⟨by simp,.inr ⟨w.heap.size,1,xs.toArray,rfl,hB,heap_alloc_new w _,zq4 _,by decide,by simp,by simp⟩⟩
section
variable {B:Nat} {WV:Value} {w:World} {P:Nat} {ws:List ByteArray} {s:PS} {F:List Nat} {wv vv hv nv:Value}
theorem tb{w w':World}{B:Nat}{e:TypeId}{sz n:Nat}{v:Value}{xs:List Value}{F F':List Nat}(h:w.ownsRow B e sz v n xs)(hS:ar F w F' w')(ho:∀k,v.ownBlock=some k->k ∉ F):w'.ownsRow B e sz v n xs :=
 ae h (λk hk=>hS.block k (h.lt k hk).2 (ho k hk))
theorem Kq{w:World}{B:Nat}{e:TypeId}{sz n:Nat}{v:Value}{xs:List Value}(h:w.ownsRow B e sz v n xs)(o o':Obj):((w.alloc o).alloc o').ownsRow B e sz v n xs:=(h.alloc o).alloc o'
theorem Jv {wr w3 w4:World} {F2 F3:List Nat} {st':PS} {v:Value} {al:List bC} {o o':Obj} {g n cap:Nat} (hS:ar F w F2 wr) (aN:wr.ownsRow w.heap.size 239 5 v al.length (aW al)) (Ez:∀k,v.ownBlock=some k->k ∉ F2)
  (ec:dP B WV w3 P ws st' F3) (bZ:ar F2 wr F3 w3) (hg:((w3.alloc o).alloc o').grownBy w4 v.ownBlock) (hb:some g=v.ownBlock\/g=w3.heap.size+1+1) :
  dP B WV w4 P ws st' F3/\ar F w F3 w4/\∀k,(Value.slice (some ⟨g,0,none⟩) n cap).ownBlock=some k->k ∉ F3:=by
 have JU:∀k,v.ownBlock=some k->k ∉ F3:=by
  intro k hk hm;rcases bZ.foot k hm with h|h
  .exact Ez k hk h
  .have:=(aN.lt k hk).2;omega
 have akg:=((hS.trans bZ).alloc o).alloc o';refine⟨⟨((ec.m.alloc o).alloc o').of_eq (λk hk=>hg.block k (by have:=(ec.m.mem k hk).2;simp;omega) (λe=>JU k e.symm hk)),ec.f⟩,akg.grown hg (λk hk=>zq1 (aN.lt k hk).1),?_⟩;intro k hk hm;simp[Value.ownBlock]at hk;subst hk;rcases hb with hb|hb
 .exact JU g hb.symm hm
 .have:=(ec.m.mem g hm).2;omega
theorem MY(n:Nat)(h:cL ws dO s=false):fW ws n s=([],s):=by
 cases n with
 |zero=>rfl
 |succ n=>simp[fW,h]
theorem YA(n:Nat)(h:cL ws dO s=true):fW ws (n+1) s=(nS ws s.adv::(fW ws n (dH ws s.adv)).1,(fW ws n (dH ws s.adv)).2):=by simp[fW,h]
theorem rD(h:dP B WV w P ws s F):
  Calls prog 121 #[.pointer (some ⟨P,0,none⟩)] w λe w'=>∃v F',e=.returned v/\dP B WV w' P ws (po ws s) F'/\ar F w F' w' /\
   w'.ownsRow w.heap.size 239 5 v (Bu ws s).length (aW (Bu ws s))/\(∀k,v.ownBlock=some k->k ∉ F'):=by
 obtain⟨i0,hi,eo,ep,eK⟩:=info_parts infoAtom;have HQ:=ab h;obtain⟨hl,_,_,_⟩:=h.f;clear h;go_enter func121,ntmps121;go_wp2_with fail
 refine(AZ (uh HQ)).mono ?_;rintro e w1 ⟨rfl,F1,df,bq⟩;have dD:=ab df;have bT:=ab bq;clear df bq;obtain⟨A0,Au⟩:∃A0,A0=nS ws s:=⟨_,rfl⟩;have HA0:=ab Au;rw[<-Au];clear Au;obtain⟨k0,k1,k2,k3,k4⟩:=A0;simp only[bC.cells];go_wp2_with fail
 go_loopg [4] (ws.length+1) (λm v wr=>∃(st:PS) (al:List bC) (F2:List Nat),dP B WV wr P ws st F2/\ar F w F2 wr/\wr.ownsRow w.heap.size 239 5 v al.length (aW al)/\(∀k,v.ownBlock=some k->k ∉ F2)/\al.length<=st.pos+1 /\
  Hid (ws.length<m+st.pos/\Bu ws s=al++(fW ws m st).1/\po ws s=(fW ws m st).2))
 case atStart =>
  refine⟨dH ws s,[⟨k0,k1,k2,k3,k4⟩],F1,((uh dD).alloc _).alloc _,((uh bT).alloc _).alloc _,?_,?_,by simp,?_⟩
  .have Ou:=(uh bT).size;exact gR (Ur (w1.alloc _) (w1.heap.size+1) w.heap.size (by simp) (by simp;omega) _ 5 [.int .i64 k0,.int .i64 k1,.int .i64 k2,.int .i64 k3,.int .i64 k4] rfl) rfl (by simp[aW,bC.cells])
  .intro k hk hm;simp[Value.ownBlock]at hk;have:=((uh dD).m.mem k hm).2;omega
  .exact⟨by omega,by rw[Bu,<-uh HA0];rfl,rfl⟩
 case round =>
  obtain⟨st,al,F2,hI,hS,aN,Ez,cN,afz⟩:=hrel;obtain⟨_,ZO,_,_⟩:=hI.f;have HI:=ab hI;have HS:=ab hS;have RD:=ab aN;have RC:=ab Ez;have HA:=aA dO (by decide) hI;clear hI hS aN Ez;cases hb:cL ws dO st with
  |false =>
   have qf:Hid (kx ws dO st=st):=ab (if_neg (by simp[hb]));rw[hb,uh qf]at HA;replace HA:=ab HA
   have HB:=ab hb;clear hb;go_wp2_with fail
   refine(uh HA).mono ?_;rintro e w2 ⟨rfl,bP,bE⟩;have dc:=ab bP;have cH:=ab bE;clear bP bE;go_wp2_with fail
   go_ret;obtain⟨_,Wr,oT⟩:=uh afz;rw[MY _ (uh HB)]at Wr oT;refine⟨_,F2,rfl,by rw[oT];exact uh dc,(uh HS).trans (uh cH),?_,uh RC⟩;rw[Wr,append_nil];exact ae (uh RD) (λk hk=>(uh cH).block k ((uh RD).lt k hk).2 (uh RC k hk))
  |true =>
   have qf:Hid (kx ws dO st=st.adv):=ab (if_pos hb);rw[hb,uh qf]at HA;replace HA:=ab HA
   have HB:=ab hb;have art:st.pos<ws.length:=LF (by decide) hb;clear hb;go_wp2_with fail
   refine(uh HA).mono ?_;rintro e w2 ⟨rfl,bP,bE⟩;have dc:=ab bP;have cH:=ab bE;clear bP bE;go_wp2_with fail
   refine(AZ (uh dc)).mono ?_;rintro e w3 ⟨rfl,F3,ec,bZ⟩;have gU:=ab ec;have fV:=ab ((uh cH).trans bZ);clear ec bZ;obtain⟨A1,hA1⟩:∃A1,A1=nS ws st.adv:=⟨_,rfl⟩;have kU:=ab hA1;rw[<-hA1];clear hA1;obtain⟨j0,j1,j2,j3,j4⟩:=A1;simp only[bC.cells];go_wp2_with (at_builtin;refine aH _ rfl (.tmp 14) (.tmp 16) 102 rfl w.heap.size 239 i0 _ 5 40 underlying102 hi eo ep eK rfl (by decide) _ al.length (aW al) rfl (Kq (tb (uh RD) (uh fV) (uh RC)) _ _) ⟨_,0,none⟩ 1 [.int .i64 j0,.int .i64 j1,.int .i64 j2,.int .i64 j3,.int .i64 j4] rfl rfl ?c1 ?c2 ?c3 ?c4 ?c5 ?_)
   case c1=>exact aP (w3.alloc _) _ (by simp) [.int .i64 j0,.int .i64 j1,.int .i64 j2,.int .i64 j3,.int .i64 j4] _
   case c2=>exact bC.one ⟨j0,j1,j2,j3,j4⟩
   case c3=>omega
   case c4=>omega
   case c5=>have:=(uh HS).size;have:=(uh fV).size;simp;omega
   intro g cap w4 gM dM iJ;have R:=Jv (n:=al.length+1) (cap:=cap) (uh HS) (uh RD) (uh RC) (uh gU) (uh fV) dM iJ;have HR:=ab R;have HO4:=ab gM;clear R gM dM iJ;go_wp2_with fail
   obtain⟨hfm,Wr,oT⟩:=uh afz;obtain⟨m,rfl⟩:∃m,gk=m+1:=⟨gk-1,by omega⟩;rw[YA _ (uh HB),<-uh kU]at Wr oT;go_roundg m
   case measure=>omega
   case rel =>
    have hp2:=RZ (ws:=ws) (s:=st.adv);have KY:st.adv.pos=st.pos+1:=rfl;refine⟨dH ws st.adv,al++[⟨j0,j1,j2,j3,j4⟩],F3,(uh HR).1,(uh HR).2.1,?_,(uh HR).2.2,by simp;omega,⟨by omega,?_,oT⟩⟩
    .exact gR (uh HO4) (by simp) (by rw[yq];rfl)
    .rw[Wr];simp
end
