import Derived.Test.YtciihepbeacppaaGreatM00
import Derived.Deep.LoopGhost
set_option maxRecDepth 100000
set_option maxHeartbeats 0
namespace Go.Proofs.YtciihepbeacppaaGreat
open Tryz Go.RowKit List World Below
set_option linter.unusedVariables false
def de(B:Nat)(WV:Value)(w:World)(P:Nat)(ws:List ByteArray)(s:PS)(F:List Nat)(wv vv hv nv:Value):Prop :=
  w.heap[P]?=some (.cells #[wv,.int .i64 s.pos,.bool s.failed,vv,hv,nv] 133 (0,0))/\(B<=P/\wv=WV) /\
  w.ownsRow B 9 1 wv ws.length (ws.map Value.string) /\
  w.ownsRow B 5 1 vv s.vars.length (bc s.vars) /\
  w.ownsRow B 5 1 hv s.hid.length (bc s.hid) /\
  w.ownsRow B 186 6 nv s.nodes.length (bi s.nodes) /\
  F=P::(wv.ownBlock.toList++(vv.ownBlock.toList++(hv.ownBlock.toList++nv.ownBlock.toList)))/\F.Nodup
section
variable {B:Nat} {WV:Value} {w:World} {P:Nat} {ws:List ByteArray} {s:PS} {F:List Nat} {wv vv hv nv:Value}
theorem kk.named(h:kk B WV w P ws s F):∃wv vv hv nv,de B WV w P ws s F wv vv hv nv:=h
theorem de.is(h:de B WV w P ws s F wv vv hv nv):kk B WV w P ws s F:=⟨wv,vv,hv,nv,h⟩
theorem de.of_eq{w':World}(h:de B WV w P ws s F wv vv hv nv)(he:∀k∈F,w'.heap[k]?=w.heap[k]?):de B WV w' P ws s F wv vv hv nv:=by
 obtain⟨hP,hB,h1,h2,h3,h4,hF,hN⟩:=h;have hm:∀k,k=P\/wv.ownBlock=some k\/vv.ownBlock=some k\/hv.ownBlock=some k\/nv.ownBlock=some k->k∈F:=by
  intro k hk;rw[hF];simpa using hk
 exact⟨by rw[he P (hm P (by simp))];exact hP,hB,ae h1 (λk hk=>he k (hm k (by simp[hk]))),ae h2 (λk hk=>he k (hm k (by simp[hk]))),
  ae h3 (λk hk=>he k (hm k (by simp[hk]))),ae h4 (λk hk=>he k (hm k (by simp[hk]))),hF,hN⟩
theorem de.drewN(h:de B WV w P ws s F wv vv hv nv)(n:Nat):de B WV (w.drewN n) P ws s F wv vv hv nv:=h.of_eq (λ_ _=>rfl)
theorem de.alloc(h:de B WV w P ws s F wv vv hv nv)(o:Obj):de B WV (w.alloc o) P ws s F wv vv hv nv:=h.of_eq (λk hk=>heap_alloc _ _ _ (h.is.mem k hk).2)
theorem de.setPos(h:de B WV w P ws s F wv vv hv nv)(n:Nat):de B WV (w.setCell ⟨P,1,none⟩ (.int .i64 n)) P ws { s with pos:=n } F wv vv hv nv:=by
 obtain⟨hP,hB,h1,h2,h3,h4,hF,hN⟩:=h;have aY:∀k,wv.ownBlock=some k\/vv.ownBlock=some k\/hv.ownBlock=some k\/nv.ownBlock=some k->k≠P:=by
  rw[hF]at hN;rintro k hk rfl;exact(nodup_cons.1 hN).1 (by simpa using hk)
 have hk:∀k,wv.ownBlock=some k\/vv.ownBlock=some k\/hv.ownBlock=some k\/nv.ownBlock=some k->(w.setCell ⟨P,1,none⟩ (.int .i64 n)).heap[k]?=w.heap[k]? :=
  λk hk=>heap_setCell _ _ _ _ (aY k hk)
 exact⟨vH hP _,hB,ae h1 (λk h=>hk k (by simp[h])),ae h2 (λk h=>hk k (by simp[h])),ae h3 (λk h=>hk k (by simp[h])),ae h4 (λk h=>hk k (by simp[h])),hF,hN⟩
theorem de.apart(h:de B WV w P ws s F wv vv hv nv):(∀k,wv.ownBlock=some k\/vv.ownBlock=some k\/hv.ownBlock=some k\/nv.ownBlock=some k->k≠P) /\
  (∀k,vv.ownBlock=some k->wv.ownBlock≠some k/\hv.ownBlock≠some k/\nv.ownBlock≠some k)/\(∀k,hv.ownBlock=some k->wv.ownBlock≠some k/\vv.ownBlock≠some k/\nv.ownBlock≠some k) /\
  (∀k,nv.ownBlock=some k->wv.ownBlock≠some k/\vv.ownBlock≠some k/\hv.ownBlock≠some k):=by
 obtain⟨hP,hB,h1,h2,h3,h4,hF,hN⟩:=h;rw[hF]at hN;cases a:wv.ownBlock <;> cases b:vv.ownBlock <;> cases c:hv.ownBlock <;> cases d:nv.ownBlock <;> simp[a,b,c,d]at hN ⊢ <;> grind
theorem RC{P g:Nat}{a b c d:List Nat}(h:(P::(a++(b++(c++d)))).Nodup)(hg:g ∉ P::(a++(c++d))):(P::(a++([g]++(c++d)))).Nodup:=by
 simp only[nodup_cons,nodup_append,mem_append,mem_cons]at *;grind
theorem Xy{P g:Nat}{a b c d:List Nat}(h:(P::(a++(b++(c++d)))).Nodup)(hg:g ∉ P::(a++(b++d))):(P::(a++(b++([g]++d)))).Nodup:=by
 simp only[nodup_cons,nodup_append,mem_append,mem_cons]at *;grind
theorem M3{P g:Nat}{a b c d:List Nat}(h:(P::(a++(b++(c++d)))).Nodup)(hg:g ∉ P::(a++(b++c))):(P::(a++(b++(c++[g])))).Nodup:=by
 simp only[nodup_cons,nodup_append,mem_append,mem_cons]at *;grind
theorem de.pushVars {w3:World} {o:Obj} {g cap:Nat} (x:UInt8) (h:de B WV w P ws s F wv vv hv nv) (hg:(w.alloc o).grownBy w3 vv.ownBlock)
  (aO:w3.ownsRow B 5 1 (.slice (some ⟨g,0,none⟩) (s.vars.length+1) cap) (s.vars.length+1) (bc s.vars++[.int .u8 (x.toNat:Int)]))
  (hb:some g=vv.ownBlock\/g=(w.alloc o).heap.size) :
  ∃F',kk B WV (w3.setCell ⟨P,3,none⟩ (.slice (some ⟨g,0,none⟩) (s.vars.length+1) cap)) P ws { s with vars:=s.vars++[x] } F'/\aq F w F' (w3.setCell ⟨P,3,none⟩ (.slice (some ⟨g,0,none⟩) (s.vars.length+1) cap)):=by
 have gX:=h.apart;have nN:=h.is.mem;have lu:(w.alloc o).heap.size=w.heap.size+1:=by simp
 obtain⟨hP,hB,h1,h2,h3,h4,hF,hN⟩:=h;have wu:P<w.heap.size:=(nN P (by rw[hF];simp)).2;have hgP:g≠P:=by
  rcases hb with hb|hb
  .exact gX.1 g (by simp[<-hb])
  .omega
 have fZ:∀k,k<w.heap.size->vv.ownBlock≠some k->k≠P->(w3.setCell ⟨P,3,none⟩ (.slice (some ⟨g,0,none⟩) (s.vars.length+1) cap)).heap[k]?=w.heap[k]?:=by
  intro k hk aY hkP;rw[heap_setCell _ _ _ _ hkP,hg.block k (by omega) (λe=>aY e.symm),heap_alloc _ _ _ hk]
 have Lh:w3.heap[P]?=some (.cells #[wv,.int .i64 s.pos,.bool s.failed,vv,hv,nv] 133 (0,0)):=by
  rw[hg.block P (by omega) (λe=>(gX.1 P (by simp[<-e])) rfl),heap_alloc _ _ _ wu];exact hP
 have ar:∀k,wv.ownBlock=some k\/vv.ownBlock=some k\/hv.ownBlock=some k\/nv.ownBlock=some k->k<w.heap.size:=λk hk=>(nN k (by rw[hF];simpa using zq1 hk)).2;have hgF:g∈F\/g=w.heap.size+1:=by
  rcases hb with hb|hb
  .left;rw[hF];simp[<-hb]
  .right;omega
 refine⟨P::(wv.ownBlock.toList++([g]++(hv.ownBlock.toList++nv.ownBlock.toList))),⟨wv,.slice (some ⟨g,0,none⟩) (s.vars.length+1) cap,hv,nv,vH Lh _,hB,?_,?_,?_,?_,rfl,?_⟩,⟨hg.os,hg.tape,hg.output,?_,?_,?_⟩⟩
 .exact ae h1 (λk hk=>fZ k (ar k (by simp[hk])) (λe=>by have:=gX;grind) (λe=>(gX.1 k (by simp[hk])) e))
 .exact ae (gQ aO (by simp) (by simp[bc])) (λk hk=>heap_setCell _ _ _ _ (by simp[Value.ownBlock]at hk;subst hk;exact hgP))
 .exact ae h3 (λk hk=>fZ k (ar k (by simp[hk])) (λe=>by have:=gX;grind) (λe=>(gX.1 k (by simp[hk])) e))
 .exact ae h4 (λk hk=>fZ k (ar k (by simp[hk])) (λe=>by have:=gX;grind) (λe=>(gX.1 k (by simp[hk])) e))
 .rw[hF]at hN;rcases hb with hb|hb
  .have e:vv.ownBlock.toList=[g]:=(by rw[<-hb];rfl);rw[e]at hN;exact hN
  .refine RC hN ?_;intro hm;have:=ar g (by simpa using Or.resolve_left (mem_cons.1 hm) hgP |> λz=>(by grind));omega
 .have:=hg.size;simp[World.setCell];omega
 .intro k hk hkF;exact fZ k hk (λe=>hkF (by rw[hF];simp[e])) (λe=>hkF (by rw[hF,e];simp))
 .intro k hk;rw[hF];rw[hF]at hgF;grind
theorem de.pushHid {w3:World} {o:Obj} {g cap:Nat} (x:UInt8) (h:de B WV w P ws s F wv vv hv nv) (hg:(w.alloc o).grownBy w3 hv.ownBlock)
  (aO:w3.ownsRow B 5 1 (.slice (some ⟨g,0,none⟩) (s.hid.length+1) cap) (s.hid.length+1) (bc s.hid++[.int .u8 (x.toNat:Int)]))
  (hb:some g=hv.ownBlock\/g=(w.alloc o).heap.size) :
  ∃F',kk B WV (w3.setCell ⟨P,4,none⟩ (.slice (some ⟨g,0,none⟩) (s.hid.length+1) cap)) P ws { s with hid:=s.hid++[x] } F'/\aq F w F' (w3.setCell ⟨P,4,none⟩ (.slice (some ⟨g,0,none⟩) (s.hid.length+1) cap)):=by
 have gX:=h.apart;have nN:=h.is.mem;have lu:(w.alloc o).heap.size=w.heap.size+1:=by simp
 obtain⟨hP,hB,h1,h2,h3,h4,hF,hN⟩:=h;have wu:P<w.heap.size:=(nN P (by rw[hF];simp)).2;have hgP:g≠P:=by
  rcases hb with hb|hb
  .exact gX.1 g (by simp[<-hb])
  .omega
 have fZ:∀k,k<w.heap.size->hv.ownBlock≠some k->k≠P->(w3.setCell ⟨P,4,none⟩ (.slice (some ⟨g,0,none⟩) (s.hid.length+1) cap)).heap[k]?=w.heap[k]?:=by
  intro k hk aY hkP;rw[heap_setCell _ _ _ _ hkP,hg.block k (by omega) (λe=>aY e.symm),heap_alloc _ _ _ hk]
 have Lh:w3.heap[P]?=some (.cells #[wv,.int .i64 s.pos,.bool s.failed,vv,hv,nv] 133 (0,0)):=by
  rw[hg.block P (by omega) (λe=>(gX.1 P (by simp[<-e])) rfl),heap_alloc _ _ _ wu];exact hP
 have ar:∀k,wv.ownBlock=some k\/vv.ownBlock=some k\/hv.ownBlock=some k\/nv.ownBlock=some k->k<w.heap.size:=λk hk=>(nN k (by rw[hF];simpa using zq1 hk)).2;have hgF:g∈F\/g=w.heap.size+1:=by
  rcases hb with hb|hb
  .left;rw[hF];simp[<-hb]
  .right;omega
 refine⟨P::(wv.ownBlock.toList++(vv.ownBlock.toList++([g]++nv.ownBlock.toList))),⟨wv,vv,.slice (some ⟨g,0,none⟩) (s.hid.length+1) cap,nv,vH Lh _,hB,?_,?_,?_,?_,rfl,?_⟩,⟨hg.os,hg.tape,hg.output,?_,?_,?_⟩⟩
 .exact ae h1 (λk hk=>fZ k (ar k (by simp[hk])) (λe=>by have:=gX;grind) (λe=>(gX.1 k (by simp[hk])) e))
 .exact ae h2 (λk hk=>fZ k (ar k (by simp[hk])) (λe=>by have:=gX;grind) (λe=>(gX.1 k (by simp[hk])) e))
 .exact ae (gQ aO (by simp) (by simp[bc])) (λk hk=>heap_setCell _ _ _ _ (by simp[Value.ownBlock]at hk;subst hk;exact hgP))
 .exact ae h4 (λk hk=>fZ k (ar k (by simp[hk])) (λe=>by have:=gX;grind) (λe=>(gX.1 k (by simp[hk])) e))
 .rw[hF]at hN;rcases hb with hb|hb
  .have e:hv.ownBlock.toList=[g]:=(by rw[<-hb];rfl);rw[e]at hN;exact hN
  .refine Xy hN ?_;intro hm;have:=ar g (by simpa using Or.resolve_left (mem_cons.1 hm) hgP |> λz=>(by grind));omega
 .have:=hg.size;simp[World.setCell];omega
 .intro k hk hkF;exact fZ k hk (λe=>hkF (by rw[hF];simp[e])) (λe=>hkF (by rw[hF,e];simp))
 .intro k hk;rw[hF];rw[hF]at hgF;grind
theorem de.pushNodes {w3:World} {o:Obj} {g cap:Nat} (x:Nd) (h:de B WV w P ws s F wv vv hv nv) (hg:(w.alloc o).grownBy w3 nv.ownBlock)
  (aO:w3.ownsRow B 186 6 (.slice (some ⟨g,0,none⟩) (s.nodes.length+1) cap) (s.nodes.length+1) (bi s.nodes++x.cells))
  (hb:some g=nv.ownBlock\/g=(w.alloc o).heap.size) :
  ∃F',kk B WV (w3.setCell ⟨P,5,none⟩ (.slice (some ⟨g,0,none⟩) (s.nodes.length+1) cap)) P ws { s with nodes:=s.nodes++[x] } F'/\aq F w F' (w3.setCell ⟨P,5,none⟩ (.slice (some ⟨g,0,none⟩) (s.nodes.length+1) cap)):=by
 have gX:=h.apart;have nN:=h.is.mem;have lu:(w.alloc o).heap.size=w.heap.size+1:=by simp
 obtain⟨hP,hB,h1,h2,h3,h4,hF,hN⟩:=h;have wu:P<w.heap.size:=(nN P (by rw[hF];simp)).2;have hgP:g≠P:=by
  rcases hb with hb|hb
  .exact gX.1 g (by simp[<-hb])
  .omega
 have fZ:∀k,k<w.heap.size->nv.ownBlock≠some k->k≠P->(w3.setCell ⟨P,5,none⟩ (.slice (some ⟨g,0,none⟩) (s.nodes.length+1) cap)).heap[k]?=w.heap[k]?:=by
  intro k hk aY hkP;rw[heap_setCell _ _ _ _ hkP,hg.block k (by omega) (λe=>aY e.symm),heap_alloc _ _ _ hk]
 have Lh:w3.heap[P]?=some (.cells #[wv,.int .i64 s.pos,.bool s.failed,vv,hv,nv] 133 (0,0)):=by
  rw[hg.block P (by omega) (λe=>(gX.1 P (by simp[<-e])) rfl),heap_alloc _ _ _ wu];exact hP
 have ar:∀k,wv.ownBlock=some k\/vv.ownBlock=some k\/hv.ownBlock=some k\/nv.ownBlock=some k->k<w.heap.size:=λk hk=>(nN k (by rw[hF];simpa using zq1 hk)).2;have hgF:g∈F\/g=w.heap.size+1:=by
  rcases hb with hb|hb
  .left;rw[hF];simp[<-hb]
  .right;omega
 refine⟨P::(wv.ownBlock.toList++(vv.ownBlock.toList++(hv.ownBlock.toList++[g]))),⟨wv,vv,hv,.slice (some ⟨g,0,none⟩) (s.nodes.length+1) cap,vH Lh _,hB,?_,?_,?_,?_,rfl,?_⟩,⟨hg.os,hg.tape,hg.output,?_,?_,?_⟩⟩
 .exact ae h1 (λk hk=>fZ k (ar k (by simp[hk])) (λe=>by have:=gX;grind) (λe=>(gX.1 k (by simp[hk])) e))
 .exact ae h2 (λk hk=>fZ k (ar k (by simp[hk])) (λe=>by have:=gX;grind) (λe=>(gX.1 k (by simp[hk])) e))
 .exact ae h3 (λk hk=>fZ k (ar k (by simp[hk])) (λe=>by have:=gX;grind) (λe=>(gX.1 k (by simp[hk])) e))
 .exact ae (gQ aO (by simp) (by simp[bi])) (λk hk=>heap_setCell _ _ _ _ (by simp[Value.ownBlock]at hk;subst hk;exact hgP))
 .rw[hF]at hN;rcases hb with hb|hb
  .have e:nv.ownBlock.toList=[g]:=(by rw[<-hb];rfl);rw[e]at hN;exact hN
  .refine M3 hN ?_;intro hm;have:=ar g (by simpa using Or.resolve_left (mem_cons.1 hm) hgP |> λz=>(by grind));omega
 .have:=hg.size;simp[World.setCell];omega
 .intro k hk hkF;exact fZ k hk (λe=>hkF (by rw[hF];simp[e])) (λe=>hkF (by rw[hF,e];simp))
 .intro k hk;rw[hF];rw[hF]at hgF;grind
end
def zE(u:ByteArray):UInt8:=u.data.toList.headD 0
def put(l:List UInt8)(c:UInt8):List UInt8:=if plc l c=l.length then l++[c] else l
def lq(ws:List ByteArray)(s:PS):Nat:=if aI (pk ws s) then plc s.vars (zE (pk ws s)) else 0
def bz(ws:List ByteArray)(s:PS):PS:=if aI (pk ws s) then { s with pos:=s.pos+1,vars:=put s.vars (zE (pk ws s)) } else s.fail
theorem x8{u:ByteArray}(h:0<u.size):zE u=u[0]:=by
 obtain⟨⟨l⟩⟩:=u;match l,h with
 |c::r,_=>rfl
theorem Iw{u:ByteArray}(h:aI u=true):u.size=1:=by
 by_cases hs:u.size=1
 .exact hs
 .rw[pm u hs]at h;cases h
theorem Nx(l:List UInt8)(c:UInt8):(put l c).length<=l.length+1:=by unfold put;split <;> simp
theorem infoNode:(prog.info? 186).map (λi=>(i.zero,i.size,i.bytes))=some (some (.agg #[.int .i64 0,.int .i64 0,.int .i64 0,.int .i64 0,.int .i64 0,.int .i64 0]),6,48):=by kernel_rfl
section
variable {B:Nat} {WV:Value} {w:World} {P:Nat} {ws:List ByteArray} {s:PS} {F:List Nat} {wv vv hv nv:Value}
theorem BM.va(h:BM ws s)(hp:s.pos<ws.length)(c:UInt8):BM ws { s with pos:=s.pos+1,vars:=put s.vars c }:=by
 obtain⟨a,b,d,e⟩:=h;have:=Nx s.vars c;simp only[BM];omega
theorem de.readsV(h:de B WV w P ws s F wv vv hv nv):w.cell? ⟨P,1,none⟩=some (.int .i64 s.pos)/\w.cell? ⟨P,2,none⟩=some (.bool s.failed)/\w.cell? ⟨P,3,none⟩=some vv/\w.cell? ⟨P,4,none⟩=some hv/\w.cell? ⟨P,5,none⟩=some nv/\(∀j,w.frozen? ⟨P,j,none⟩=false):=by
 obtain⟨hP,_⟩:=h;obtain⟨⟨c0,c1,c2,c3,c4,c5⟩,fz⟩:=iG hP;exact⟨c1,c2,c3,c4,c5,fz⟩
theorem qu{e:TypeId}{v:Value}{sz n:Nat}{xs:List Value}(h:w.ownsRow B e sz v n xs)(k:Nat)(o:Obj):((w.drewN k).alloc o).ownsRow B e sz v n xs:=ownsRow.alloc (w:=w.drewN k) h o
theorem Na(w:World)(k:Nat)(x:Value)(T:TypeId):∀(j:Nat) (u:Value),[x][j]?=some u->((w.drewN k).alloc (.cells #[x] T)).cell? ((⟨w.heap.size,0,none⟩:Addr).add j)=some u:=yS (w.drewN k) x T
theorem tR(n:Int):∀u∈[Value.int .u8 n],u.oneCell'=true:=by intro u hu;simp at hu;subst hu;rfl
theorem wK{B:Nat}(h:B<=w.heap.size)(k:Nat)(o:Obj):B<=((w.drewN k).alloc o).heap.size:=by simp;omega
theorem qI{w2:World}{o:Obj}{row:Option Nat}{k:Nat}(hg:((w.drewN k).alloc o).grownBy w2 row)(hP:P<w.heap.size)(aY:row≠some P):w2.heap[P]?=w.heap[P]?:=by
 rw[hg.block P (by simp;omega) (λe=>aY e.symm)];exact heap_alloc (w.drewN k) _ _ hP
theorem gj{w2:World}{o:Obj}{row:Option Nat}{k:Nat}(hg:((w.drewN k).alloc o).grownBy w2 row)(hP:P<w.heap.size)(aY:row≠some P)(j:Nat){v:Value}(h:w.cell? ⟨P,j,none⟩=some v):w2.cell? ⟨P,j,none⟩=some v :=
 (cell?_of_block (a:=⟨P,j,none⟩) (qI hg hP aY)).trans h
theorem eb{w2:World}{o:Obj}{row:Option Nat}{k:Nat}(hg:((w.drewN k).alloc o).grownBy w2 row)(hP:P<w.heap.size)(aY:row≠some P)(j:Nat){b:Bool}(h:w.frozen? ⟨P,j,none⟩=b):w2.frozen? ⟨P,j,none⟩=b :=
 (World.frozen?_of_block (a:=⟨P,j,none⟩) (qI hg hP aY)).trans h
theorem js{n j:Nat}{v:Value}{l:List UInt8}{c:UInt8}(hj:j=plc l c)(h:w.ownsRow B 5 1 v l.length (bc l))(hl:l.length<=20000):
  Calls prog 212 #[v,.int .u8 (c.toNat:Int)] (w.drewN n) λe w''=>e=.returned (.int .i64 j)/\∃m,w''=w.drewN m:=by
 subst hj;exact Calls.quiet_of_same (IJ (B:=B) (w:=w.drewN n) c h hl)
theorem ei(h:d9 B WV w P ws s F):
  Calls prog 215 #[.pointer (some ⟨P,0,none⟩)] w λe w'=>e=.returned (.int .i64 (lq ws s))/\∃F',d9 B WV w' P ws (bz ws s) F'/\aq F w F' w':=by
 obtain⟨i0,hi,fW,fy,fJ⟩:=info_parts infoByte;have HQ:=ab h;have HK:=ab (jW h);obtain⟨wv,vv,hv,nv,dN⟩:=h.m.named;obtain⟨hl,hp,Dp,hhl⟩:=h.f;clear h;obtain⟨u,hu⟩:∃u,u=pk ws s:=⟨_,rfl⟩;have HU:=ab hu;rw[<-hu]at HK;clear hu;cases gE:aI u with
 |false =>
  have HI:Hid (lq ws s=0):=ab (by unfold lq;rw[<-uh HU,gE];rfl);have HS:Hid (bz ws s=s.fail):=ab (by unfold bz;rw[<-uh HU,gE];rfl);obtain⟨c1,c2,c3,c4,c5,fz⟩:=dN.readsV;have f2:=fz 2;clear c1 c3 c4 c5 fz dN;go_enter func215,ntmps215;go_wp2_with (first|(go_at_call 160;refine(uh HK).mono ?_;rintro e w' ⟨rfl,n,rfl⟩)|(go_at_call 248;refine(lQ u _).mono ?_;rintro e w' ⟨rfl,rfl⟩))
  go_ret;exact⟨bj (by rw[uh HI];rfl),F,⟨by rw[uh HS];exact((uh HQ).m.drewN n).setFailed true,by rw[uh HS];exact(uh HQ).f⟩,((aq.refl F w).drewN n).setCell (zq0 (uh HQ).m.memP) _⟩
 |true =>
  have hus:0<u.size:=by rw[Iw gE];omega
  have HI:Hid (lq ws s=plc s.vars u[0]):=ab (by unfold lq;rw[<-uh HU,gE,if_pos rfl,x8 hus]);have HS:Hid (bz ws s={ s with pos:=s.pos+1,vars:=put s.vars u[0] }):=ab (by unfold bz;rw[<-uh HU,gE,if_pos rfl,x8 hus]);have ar:s.pos<ws.length:=(wS (by rw[<-uh HU];omega)).2;have WN:=tV s.vars u[0];obtain⟨j,hj⟩:∃j,j=plc s.vars u[0]:=⟨_,rfl⟩;have HJ:=ab hj;rw[<-hj]at WN;clear hj;obtain⟨ao,cap,rfl,hm,_⟩:=ku dN.2.2.2.1;obtain⟨c1,c2,c3,c4,c5,fz⟩:=dN.readsV;have f1:=fz 1;have vb:=ab dN;clear fz c2 c3 c4 c5 dN;go_enter func215,ntmps215;go_wp2_with (first|(go_at_call 160;refine(uh HK).mono ?_;rintro e w' ⟨rfl,n,rfl⟩)|(go_at_call 248;refine(lQ u _).mono ?_;rintro e w' ⟨rfl,rfl⟩))
  have qo:=((uh vb).drewN n).setPos (s.pos+1);have mU:aq F w F ((w.drewN n).setCell ⟨P,1,none⟩ (.int .i64 ((s.pos:Int)+1))):=((aq.refl F w).drewN n).setCell (zq0 (uh HQ).m.memP) _;rw[show(((s.pos+1:Nat)):Int)=(s.pos:Int)+1 by omega]at qo;generalize (w.drewN n).setCell ⟨P,1,none⟩ (.int .i64 ((s.pos:Int)+1))=w1 at qo mU ⊢;clear c1 f1;obtain⟨_,_,c3,_,_,fz⟩:=qo.readsV;have f3:=fz 3;have bp:=qo.2.2.2.1;have HR:=ab bp;have vM:=ab qo;have cI:=ab mU;clear fz qo mU bp;have wu:P<w1.heap.size:=((uh vM).is.mem P (uh vM).is.memP).2;have Qn:B<=w1.heap.size:=by have:=((uh vM).is.mem P (uh vM).is.memP).1;omega
  have BS:Hid ((Value.slice ao s.vars.length cap).ownBlock≠some P):=ab (λe=>(uh vM).apart.1 P (by simp[e]) rfl);by_cases fC:j=s.vars.length
  .have hjt:((j:Int)==(s.vars.length:Int))=true:=(by simp[fC]);have UG:=ab fC;clear fC;have c3a:∀(k:Nat) (o:Obj),((w1.drewN k).alloc o).cell? ⟨P,3,none⟩=some (.slice ao s.vars.length cap):=λk o=>(cell?_of_block (a:=⟨P,3,none⟩) (heap_alloc (w1.drewN k) o P wu)).trans c3;go_quiet ((go_at_call 212;exact js (uh HJ) (uh HR) (by omega)))
   go_wp2_with fail
   go_region_law (refine iC _ rfl (.tmp 38) (.tmp 41) 101 rfl B 5 i0 (.int .u8 0) 1 1 underlying101 hi fW fy fJ rfl (by decide) (.slice ao s.vars.length cap) s.vars.length (bc s.vars) (by simp[Act.eval]) (qu (uh HR) _ _) ⟨w1.heap.size,0,none⟩ 1 [.int .u8 (u[0].toNat:Int)] (by simp[Act.eval]) rfl (Na _ _ _ _) (tR _) (by omega) (by omega) (wK Qn _ _) ?_;intro g2 cap2 w2 br aL dA;have c3':=gj aL wu (uh BS) 3 c3;have f3':=eb aL wu (uh BS) 3 f3;have HO2:=ab br;have HG2:=ab aL;have dS:=ab dA;clear br aL dA)
   all_goals
    go_wp2_with fail
    go_ret;obtain⟨F',VS,V4⟩:=de.pushVars u[0] ((uh vM).drewN _) (uh HG2) (uh HO2) (uh dS);refine⟨bj (by rw[uh HI,<-uh HJ]),F',⟨?_,?_⟩,((uh cI).drewN _).trans V4⟩
    .rw[uh HS];unfold put;rw[if_pos (by rw[<-uh HJ];exact uh UG)];exact VS
    .rw[uh HS];exact(uh HQ).f.va ar _
  .have hjt:((j:Int)==(s.vars.length:Int))=false:=(by simp;omega);have UG:=ab fC;clear fC;go_quiet ((go_at_call 212;exact js (uh HJ) (uh HR) (by omega)))
   go_wp2_with fail
   go_ret;refine⟨bj (by rw[uh HI,<-uh HJ]),F,⟨?_,?_⟩,(uh cI).drewN _⟩
   .rw[uh HS];unfold put;rw[if_neg (by rw[<-uh HJ];exact uh UG)];exact(uh vM).is.drewN _
   .rw[uh HS];exact(uh HQ).f.va ar _
end
def jg:ByteArray:=⟨#[110,105,108]⟩
def du(ws:List ByteArray)(s:PS):Nat:=if bH ws jg s then 0 else 1
def d7(ws:List ByteArray)(s:PS):Nat:=if bH ws jg s then 0 else lq ws s
def bU(ws:List ByteArray)(s:PS):PS:=if bH ws jg s then s.adv else bz ws s
section
variable {B:Nat} {WV:Value} {w:World} {P:Nat} {ws:List ByteArray} {s:PS} {F:List Nat}
theorem bD{w1:World}{F':List Nat}{xs:Array Value}{T:TypeId}(h0:kk B WV w P ws s F)(hS:aq F (w.alloc (.cells xs T)) F' w1):
  w1.heap[w.heap.size]?=some (.cells xs T (0,0))/\w.heap.size ∉ F'/\w.heap.size<w1.heap.size:=by
 have hn:w.heap.size ∉ F:=λhm=>by have:=(h0.mem _ hm).2;omega
 refine⟨?_,?_,?_⟩
 .rw[hS.block _ (by simp) hn];exact heap_alloc_new w _
 .intro hm;rcases hS.foot _ hm with h|h
  .exact hn h
  .simp at h;omega
 .have:=hS.size;simp at this;omega
theorem ax{w0 w1:World}{F':List Nat}{r:Nat}{o:Obj}(hr:w0.heap[r]?=some o)(hn:r ∉ F)(hS:aq F w0 F' w1):w1.heap[r]?=some o/\r ∉ F'/\r<w1.heap.size:=by
 have hl:=(Array.getElem?_eq_some_iff.1 hr).1;refine⟨?_,?_,?_⟩
 .rw[hS.block _ hl hn];exact hr
 .intro hm;rcases hS.foot _ hm with h|h
  .exact hn h
  .omega
 .have:=hS.size;omega
theorem ju{r:Nat}{a b:Value}{T:TypeId}(h:w.heap[r]?=some (.cells #[a,b] T (0,0))):(w.cell? ⟨r,0,none⟩=some a/\w.cell? ⟨r,1,none⟩=some b)/\w.frozen? ⟨r,0,none⟩=false/\w.frozen? ⟨r,1,none⟩=false:=by
 refine⟨⟨?_,?_⟩,?_,?_⟩ <;> simp[World.cell?,World.frozen?,h]
theorem d9.alloc(h:d9 B WV w P ws s F)(o:Obj):d9 B WV (w.alloc o) P ws s F:=⟨h.m.alloc o,h.f⟩
theorem d9.setOther(h:d9 B WV w P ws s F){p:Addr}(hp:p.block ∉ F)(u:Value):d9 B WV (w.setCell p u) P ws s F:=⟨h.m.setOther hp u,h.f⟩
theorem gq(h:d9 B WV w P ws s F):
  Calls prog 213 #[.pointer (some ⟨P,0,none⟩)] w λe w'=>e=.returned (.agg #[.int .i64 (du ws s),.int .i64 (d7 ws s)])/\∃F',d9 B WV w' P ws (bU ws s) F'/\aq F w F' w':=by
 have HQ:=ab h;have HA:=λo=>ab (az jg (by decide) (h.alloc o));clear h;cases hb:bH ws jg s with
 |true =>
  have HK:Hid (du ws s=0):=ab (if_pos hb);have HI:Hid (d7 ws s=0):=ab (if_pos hb);have HS:Hid (bU ws s=kq ws jg s):=ab (by unfold bU kq;rw[if_pos hb,if_pos hb]);simp only[hb]at HA;clear hb;go_enter func213,ntmps213;go_wp2_with (go_at_call 158;refine(uh (HA _)).mono ?_;rintro e w' ⟨rfl,hI,hS⟩;obtain⟨hb,hn,hl⟩:=bD (uh HQ).m hS;obtain⟨⟨d0,d1⟩,e0,e1⟩:=ju hb;have dJ:=ab hI;have cj:=ab hS;clear hI hS hb)
  refine bodyPost_ret (v:=.agg #[.int .i64 0,.int .i64 0]) (by simp[results,Tryz.results213,go_sem,d0,d1]) rfl ⟨by rw[uh HK,uh HI];rfl,F,?_,?_⟩
  .rw[uh HS];exact((uh dJ).setOther hn _).setOther hn _
  .exact((((aq.refl F w).alloc _).trans (uh cj)).setCell (zq1 (zq4 _)) _).setCell (zq1 (zq4 _)) _
 |false =>
  have HK:Hid (du ws s=1):=ab (if_neg (by simp[hb]));have HI:Hid (d7 ws s=lq ws s):=ab (if_neg (by simp[hb]));have HS:Hid (bU ws s=bz ws s):=ab (if_neg (by simp[hb]));have qC:Hid (kq ws jg s=s):=ab (if_neg (by simp[hb]));simp only[hb]at HA;clear hb;go_enter func213,ntmps213;go_wp2_with (go_at_call 158;refine(uh (HA _)).mono ?_;rintro e w' ⟨rfl,hI,hS⟩;obtain⟨hb,hn,hl⟩:=bD (uh HQ).m hS;rw[uh qC]at hI;have dJ:=ab hI;have cj:=ab hS;have HB:=ab hb;clear hI hS hb)
  refine(ei (uh dJ)).mono ?_;rintro e w2 ⟨rfl,F',eI,cF⟩;obtain⟨cU,tr,L4⟩:=ax (uh HB) hn cF;obtain⟨⟨d0,d1⟩,e0,e1⟩:=ju cU;have hU:=ab eI;have gW:=ab cF;clear eI cF cU;go_wp2_with fail
  refine bodyPost_ret (v:=.agg #[.int .i64 1,.int .i64 (lq ws s)]) (by simp[results,Tryz.results213,go_sem,d0,d1]) rfl ⟨by rw[uh HK,uh HI];rfl,F',?_,?_⟩
  .rw[uh HS];exact((uh hU).setOther tr _).setOther tr _
  .exact(((((aq.refl F w).alloc _).trans (uh cj)).trans (uh gW)).setCell (zq1 (zq4 _)) _).setCell (zq1 (zq4 _)) _
end
def rz(ws:List ByteArray)(s:PS):Nat:=if jH (pk ws s) then 2 else du ws s
def ry(ws:List ByteArray)(s:PS):Nat:=if jH (pk ws s) then plc s.hid (zE (pk ws s)) else d7 ws s
def eu(ws:List ByteArray)(s:PS):PS:=if jH (pk ws s) then { s with pos:=s.pos+1,hid:=put s.hid (zE (pk ws s)) } else bU ws s
theorem Of{u:ByteArray}(h:jH u=true):u.size=1:=by
 by_cases hs:u.size=1
 .exact hs
 .rw[Gz u hs]at h;cases h
section
variable {B:Nat} {WV:Value} {w:World} {P:Nat} {ws:List ByteArray} {s:PS} {F:List Nat} {wv vv hv nv:Value}
theorem BM.te(h:BM ws s)(hp:s.pos<ws.length)(c:UInt8):BM ws { s with pos:=s.pos+1,hid:=put s.hid c }:=by
 obtain⟨a,b,d,e⟩:=h;have:=Nx s.hid c;simp only[BM];omega
theorem pG(h:d9 B WV w P ws s F):
  Calls prog 184 #[.pointer (some ⟨P,0,none⟩)] w λe w'=>e=.returned (.agg #[.int .i64 (rz ws s),.int .i64 (ry ws s)])/\∃F',d9 B WV w' P ws (eu ws s) F'/\aq F w F' w':=by
 obtain⟨i0,hi,fW,fy,fJ⟩:=info_parts infoByte;have HQ:=ab h;obtain⟨w0,kW⟩:∃w0,w0=w.alloc (.cells #[.int .i64 0,.int .i64 0] 184):=⟨_,rfl⟩;have h0:d9 B WV w0 P ws s F:=by rw[kW];exact h.alloc _
 have UM:Hid (aq F w F w0):=ab (by rw[kW];exact(aq.refl F w).alloc _);have GF:Hid (w0.heap[w.heap.size]?=some (.cells #[.int .i64 0,.int .i64 0] 184 (0,0))):=ab (by rw[kW];exact heap_alloc_new w _);have HN0:Hid (w.heap.size ∉ F):=ab (λhm=>by have:=(h.m.mem _ hm).2;omega);have US:=ab kW;clear kW;have HQ0:=ab h0;have HK:=ab (jW h0);obtain⟨wv,vv,hv,nv,dN⟩:=h0.m.named;obtain⟨hl,hp,Dp,hhl⟩:=h.f;clear h h0;obtain⟨u,hu⟩:∃u,u=pk ws s:=⟨_,rfl⟩;have HU:=ab hu;rw[<-hu]at HK;clear hu;cases gE:jH u with
 |false =>
  have HIK:Hid (rz ws s=du ws s):=ab (by unfold rz;rw[<-uh HU,gE];rfl);have HII:Hid (ry ws s=d7 ws s):=ab (by unfold ry;rw[<-uh HU,gE];rfl);have HS:Hid (eu ws s=bU ws s):=ab (by unfold eu;rw[<-uh HU,gE];rfl);clear dN;go_enter func184,ntmps184;go_wp2_with (first|(rw[<-uh US];go_at_call 160;refine(uh HK).mono ?_;rintro e w' ⟨rfl,n,rfl⟩)|(go_at_call 211;refine(oS u _).mono ?_;rintro e w' ⟨rfl,rfl⟩))
  refine(gq (w:=w0.drewN n) ⟨(uh HQ0).m.drewN n,(uh HQ0).f⟩).mono ?_;rintro e w2 ⟨rfl,F',eI,cF⟩;obtain⟨cU,tr,L4⟩:=ax (w0:=w0.drewN n) (uh GF) (uh HN0) cF;obtain⟨⟨d0,d1⟩,e0,e1⟩:=ju cU;have hU:=ab eI;have gW:=ab cF;clear eI cF cU;go_wp2_with fail
  refine bodyPost_ret (v:=.agg #[.int .i64 (du ws s),.int .i64 (d7 ws s)]) (by simp[results,Tryz.results184,go_sem,d0,d1]) rfl ⟨by rw[uh HIK,uh HII],F',?_,?_⟩
  .rw[uh HS];exact((uh hU).setOther tr _).setOther tr _
  .exact((((uh UM).drewN n).trans (uh gW)).setCell (zq1 (zq4 _)) _).setCell (zq1 (zq4 _)) _
 |true =>
  have hus:0<u.size:=by rw[Of gE];omega
  have HIK:Hid (rz ws s=2):=ab (by unfold rz;rw[<-uh HU,gE,if_pos rfl]);have HI:Hid (ry ws s=plc s.hid u[0]):=ab (by unfold ry;rw[<-uh HU,gE,if_pos rfl,x8 hus]);have HS:Hid (eu ws s={ s with pos:=s.pos+1,hid:=put s.hid u[0] }):=ab (by unfold eu;rw[<-uh HU,gE,if_pos rfl,x8 hus]);have ar:s.pos<ws.length:=(wS (by rw[<-uh HU];omega)).2;have WN:=tV s.hid u[0];obtain⟨j,hj⟩:∃j,j=plc s.hid u[0]:=⟨_,rfl⟩;have HJ:=ab hj;rw[<-hj]at WN;clear hj;obtain⟨ao,cap,rfl,hm,_⟩:=ku dN.2.2.2.2.1;obtain⟨c1,c2,c3,c4,c5,fz⟩:=dN.readsV;have f1:=fz 1;have vb:=ab dN;clear fz c2 c3 c4 c5 dN;go_enter func184,ntmps184;go_wp2_with (first|(rw[<-uh US];go_at_call 160;refine(uh HK).mono ?_;rintro e w' ⟨rfl,n,rfl⟩)|(go_at_call 211;refine(oS u _).mono ?_;rintro e w' ⟨rfl,rfl⟩))
  have qo:=((uh vb).drewN n).setPos (s.pos+1);have mU:aq F w0 F ((w0.drewN n).setCell ⟨P,1,none⟩ (.int .i64 ((s.pos:Int)+1))):=((aq.refl F w0).drewN n).setCell (zq0 (uh HQ).m.memP) _;rw[show(((s.pos+1:Nat)):Int)=(s.pos:Int)+1 by omega]at qo;generalize (w0.drewN n).setCell ⟨P,1,none⟩ (.int .i64 ((s.pos:Int)+1))=w1 at qo mU ⊢;clear c1 f1;obtain⟨bB,jf,B9⟩:=ax (uh GF) (uh HN0) mU;have eU:=ab bB;clear bB;obtain⟨_,_,_,c4,_,fz⟩:=qo.readsV;have f4:=fz 4;have bp:=qo.2.2.2.2.1;have HR:=ab bp;have vM:=ab qo;have cI:=ab mU;clear fz qo mU bp;have wu:P<w1.heap.size:=((uh vM).is.mem P (uh vM).is.memP).2;have Qn:B<=w1.heap.size:=by have:=((uh vM).is.mem P (uh vM).is.memP).1;omega
  have BS:Hid ((Value.slice ao s.hid.length cap).ownBlock≠some P):=ab (λe=>(uh vM).apart.1 P (by simp[e]) rfl);by_cases fC:j=s.hid.length
  .have hjt:((j:Int)==(s.hid.length:Int))=true:=(by simp[fC]);have UG:=ab fC;clear fC;have c4a:∀(k:Nat) (o:Obj),((w1.drewN k).alloc o).cell? ⟨P,4,none⟩=some (.slice ao s.hid.length cap):=λk o=>(cell?_of_block (a:=⟨P,4,none⟩) (heap_alloc (w1.drewN k) o P wu)).trans c4;go_quiet ((go_at_call 212;exact js (uh HJ) (uh HR) (by omega)))
   go_wp2_with fail
   go_region_law (refine iC _ rfl (.tmp 34) (.tmp 37) 101 rfl B 5 i0 (.int .u8 0) 1 1 underlying101 hi fW fy fJ rfl (by decide) (.slice ao s.hid.length cap) s.hid.length (bc s.hid) (by simp[Act.eval]) (qu (uh HR) _ _) ⟨w1.heap.size,0,none⟩ 1 [.int .u8 (u[0].toNat:Int)] (by simp[Act.eval]) rfl (Na _ _ _ _) (tR _) (by omega) (by omega) (wK Qn _ _) ?_;intro g2 cap2 w2 br aL dA;have c4':=gj aL wu (uh BS) 4 c4;have f4':=eb aL wu (uh BS) 4 f4;obtain⟨F',VS,V4⟩:=de.pushHid u[0] ((uh vM).drewN _) aL br dA;have uB:=ab VS;have HS':=ab V4;clear br aL dA VS V4)
   all_goals
    obtain⟨cU,tr,L4⟩:=ax (w0:=w1.drewN _) (uh eU) jf (uh HS');generalize Fb:World.setCell _ (⟨P,4,none⟩:Addr) _=w3 at uB HS' cU L4 ⊢;obtain⟨⟨d0,d1⟩,e0,e1⟩:=ju cU;clear cU Fb;go_wp2_with fail
    refine bodyPost_ret (v:=.agg #[.int .i64 2,.int .i64 j]) (by simp[results,Tryz.results184,go_sem,d0,d1]) rfl ⟨by rw[uh HIK,uh HI,<-uh HJ];rfl,F',⟨?_,?_⟩,?_⟩
    .rw[uh HS];unfold put;rw[if_pos (by rw[<-uh HJ];exact uh UG)];exact((uh uB).setOther tr _).setOther tr _
    .rw[uh HS];exact(uh HQ).f.te ar _
    .exact((((uh UM).trans ((uh cI).drewN _)).trans (uh HS')).setCell (zq1 (zq4 _)) _).setCell (zq1 (zq4 _)) _
  .have hjt:((j:Int)==(s.hid.length:Int))=false:=(by simp;omega);have UG:=ab fC;clear fC;obtain⟨⟨d0,d1⟩,e0,e1⟩:=ju (uh eU);go_quiet ((go_at_call 212;exact js (uh HJ) (uh HR) (by omega)))
   go_wp2_with fail
   refine bodyPost_ret (v:=.agg #[.int .i64 2,.int .i64 j]) (by simp[results,Tryz.results184,go_sem,d0,d1]) rfl ⟨by rw[uh HIK,uh HI,<-uh HJ];rfl,F,⟨?_,?_⟩,?_⟩
   .rw[uh HS];unfold put;rw[if_neg (by rw[<-uh HJ];exact uh UG)];exact(((uh vM).is.drewN _).setOther jf _).setOther jf _
   .rw[uh HS];exact(uh HQ).f.te ar _
   .exact((((uh UM).trans (uh cI)).drewN _).setCell (zq1 (zq4 _)) _).setCell (zq1 (zq4 _)) _
end
def fQ:ByteArray:=⟨#[61]⟩
def qR:ByteArray:=⟨#[33,61]⟩
def T5:ByteArray:=⟨#[45,62]⟩
def fh:ByteArray:=⟨#[40]⟩
def lR:ByteArray:=⟨#[44]⟩
def gY:ByteArray:=⟨#[41]⟩
def nP:ByteArray:=⟨#[101,109,112]⟩
def Fk:ByteArray:=⟨#[108,115]⟩
def cY:ByteArray:=⟨#[42]⟩
def iX(ws:List ByteArray)(s:PS):Nat:=if bH ws fQ s then 1 else if bH ws qR s then 2 else 3
def eg(ws:List ByteArray)(s:PS):PS:=if bH ws fQ s then s.adv else if bH ws qR s then s.adv else aF ws T5 s
structure cf where
 k:Nat
 lk:Nat
 li:Nat
 rk:Nat
 ri:Nat
def cf.cells(a:cf):List Value:=[.int .i64 a.k,.int .i64 a.lk,.int .i64 a.li,.int .i64 a.rk,.int .i64 a.ri]
section
variable {B:Nat} {WV:Value} {w:World} {P:Nat} {ws:List ByteArray} {s:PS} {F:List Nat} {wv vv hv nv:Value}
theorem zb(h:d9 B WV w P ws s F):
  Calls prog 185 #[.pointer (some ⟨P,0,none⟩)] w λe w'=>e=.returned (.int .i64 (iX ws s))/\d9 B WV w' P ws (eg ws s) F/\aq F w F w':=by
 have HQ:=ab h;have HA:=ab (az fQ (by decide) h);clear h;cases hb:bH ws fQ s with
 |true =>
  have HK:Hid (iX ws s=1):=ab (if_pos hb);have HS:Hid (eg ws s=kq ws fQ s):=ab (by unfold eg kq;rw[if_pos hb,if_pos hb]);simp only[hb]at HA;clear hb;go_enter func185,ntmps185;go_wp2_with (go_at_call 158;refine(uh HA).mono ?_;rintro e w' ⟨rfl,hI,hS⟩)
  go_ret;exact⟨bj (by rw[uh HK];rfl),by rw[uh HS];exact hI,hS⟩
 |false =>
  have qC:Hid (kq ws fQ s=s):=ab (if_neg (by simp[hb]));simp only[hb]at HA;cases aR:bH ws qR s with
  |true =>
   have HK:Hid (iX ws s=2):=ab (by unfold iX;rw[hb,aR];rfl);have HS:Hid (eg ws s=kq ws qR s):=ab (by unfold eg kq;rw[hb,aR];rfl);have dS:=ab aR;clear hb aR;go_enter func185,ntmps185;go_wp2_with fail
   refine(uh HA).mono ?_;rintro e w1 ⟨rfl,hI,hS⟩;rw[uh qC]at hI;have j8:=az qR (by decide) hI;rw[uh dS]at j8;have j8:=ab j8;clear hI;have cg:=ab hS;clear hS;go_wp2_with fail
   refine(uh j8).mono ?_;rintro e w2 ⟨rfl,bX,bO⟩;go_wp2_with fail
   go_ret;exact⟨bj (by rw[uh HK];rfl),by rw[uh HS];exact bX,(uh cg).trans bO⟩
  |false =>
   have HK:Hid (iX ws s=3):=ab (by unfold iX;rw[hb,aR];rfl);have HS:Hid (eg ws s=aF ws T5 s):=ab (by unfold eg;rw[hb,aR];rfl);have JE:Hid (kq ws qR s=s):=ab (if_neg (by simp[aR]));have dS:=ab aR;clear hb aR;go_enter func185,ntmps185;go_wp2_with fail
   refine(uh HA).mono ?_;rintro e w1 ⟨rfl,hI,hS⟩;rw[uh qC]at hI;have j8:=az qR (by decide) hI;rw[uh dS,uh JE]at j8;have j8:=ab j8;clear hI;have cg:=ab hS;clear hS;go_wp2_with fail
   refine(uh j8).mono ?_;rintro e w2 ⟨rfl,bX,bO⟩;have HE:=ab (aX T5 (by decide) bX);clear bX;go_wp2_with fail
   refine(uh HE).mono ?_;rintro e w3 ⟨rfl,eI,cF⟩;go_wp2_with fail
   go_ret;exact⟨bj (by rw[uh HK];rfl),by rw[uh HS];exact eI,((uh cg).trans bO).trans cF⟩
theorem xL{r:Nat}{a b c d e:Value}{T:TypeId}(h:w.heap[r]?=some (.cells #[a,b,c,d,e] T (0,0))):
  (w.cell? ⟨r,0,none⟩=some a/\w.cell? ⟨r,1,none⟩=some b/\w.cell? ⟨r,2,none⟩=some c/\w.cell? ⟨r,3,none⟩=some d/\w.cell? ⟨r,4,none⟩=some e) /\
  w.frozen? ⟨r,0,none⟩=false/\w.frozen? ⟨r,1,none⟩=false/\w.frozen? ⟨r,2,none⟩=false/\w.frozen? ⟨r,3,none⟩=false/\w.frozen? ⟨r,4,none⟩=false:=by
 refine⟨⟨?_,?_,?_,?_,?_⟩,?_,?_,?_,?_,?_⟩ <;> simp[World.cell?,World.frozen?,h]
def pi(ws:List ByteArray)(s:PS):PS:=aF ws fh s
def nR(ws:List ByteArray)(s:PS):PS:=aF ws lR (eu ws (pi ws s))
def yF(ws:List ByteArray)(s:PS):PS:=aF ws gY (eu ws (nR ws s))
def T7(ws:List ByteArray)(s:PS):cf:=⟨4,rz ws (pi ws s),ry ws (pi ws s),rz ws (nR ws s),ry ws (nR ws s)⟩
theorem MM(h:d9 B WV w P ws s F):
  Calls prog 183 #[.pointer (some ⟨P,0,none⟩)] w λe w'=>e=.returned (.agg (T7 ws s).cells.toArray)/\∃F',d9 B WV w' P ws (yF ws s) F'/\aq F w F' w':=by
 have HQ:=ab h;have HA:=λo=>ab (aX fh (by decide) (h.alloc o));clear h;go_enter func183,ntmps183;go_wp2_with fail
 refine(uh (HA _)).mono ?_;rintro e w1 ⟨rfl,dy,bN⟩;obtain⟨bB,jf,B9⟩:=bD (uh HQ).m bN;have eU:=ab bB;have ep:=ab dy;have cg:=ab (((aq.refl F w).alloc _).trans bN);clear bB dy bN;go_wp2_with fail
 refine(pG (uh ep)).mono ?_;rintro e w2 ⟨rfl,F2,bX,bO⟩;obtain⟨aR,gl,ye⟩:=ax (uh eU) jf bO;have dS:=ab aR;have dJ:=ab bX;have cj:=ab ((uh cg).trans bO);clear aR bX bO;go_wp2_with fail
 refine(aX lR (by decide) ((uh dJ).alloc _)).mono ?_;rintro e w3 ⟨rfl,eI,cF⟩;obtain⟨cU,tr,L4⟩:=ax (uh dS) gl (((aq.refl F2 w2).alloc _).trans cF);obtain⟨hc3,AI,AG⟩:=bD (uh dJ).m cF;have qY:=ab cU;have HC3:=ab hc3;have hU:=ab eI;have gW:=ab ((uh cj).trans (((aq.refl F2 w2).alloc _).trans cF));clear cU hc3 eI cF;go_wp2_with fail
 refine(pG (uh hU)).mono ?_;rintro e w4 ⟨rfl,F4,kU,el⟩;obtain⟨mp,Mb,hl4⟩:=ax (uh qY) tr el;obtain⟨TE,Ca,uN⟩:=ax (uh HC3) AI el;have xu:=ab mp;have ZX:=ab TE;have mP:=ab kU;have k6:=ab ((uh gW).trans el);clear mp TE kU el;go_wp2_with fail
 refine(aX gY (by decide) ((uh mP).alloc _)).mono ?_;rintro e w5 ⟨rfl,qg,eY⟩;have Qy:=((aq.refl F4 w4).alloc _).trans eY;obtain⟨dL,Dg,TN⟩:=ax (uh xu) Mb Qy;obtain⟨hc5,hm5,Dd⟩:=ax (uh ZX) Ca Qy;obtain⟨hd5,ho5,hp5⟩:=bD (uh mP).m eY;obtain⟨⟨a0,a1,a2,a3,a4⟩,g0,g1,g2,g3,g4⟩:=xL dL;obtain⟨⟨d0,d1⟩,e0,e1⟩:=ju hc5;obtain⟨⟨x0,x1⟩,y0,y1⟩:=ju hd5;have Ec:=ab qg;have qZ:=ab ((uh k6).trans Qy);clear dL hc5 hd5 qg eY Qy;go_wp2_with fail
 refine bodyPost_ret (v:=.agg (T7 ws s).cells.toArray) (by simp[results,Tryz.results183,go_sem,a0,a1,a2,a3,a4,T7,cf.cells,pi,nR]) rfl ⟨rfl,F4,?_,?_⟩
 .exact(((((uh Ec).setOther Dg _).setOther Dg _).setOther Dg _).setOther Dg _).setOther Dg _
 .exact(((((uh qZ).setCell (zq1 (zq4 _)) _).setCell (zq1 (zq4 _)) _).setCell (zq1 (zq4 _)) _).setCell (zq1 (zq4 _)) _).setCell (zq1 (zq4 _)) _
end
def dQ(ws:List ByteArray)(s:PS):PS:=if bH ws nP s then s.adv else if bH ws Fk s then yF ws s.adv else eu ws (eg ws (eu ws s))
def oy(ws:List ByteArray)(s:PS):cf :=
 if bH ws nP s then ⟨0,0,0,0,0⟩ else if bH ws Fk s then T7 ws s.adv else ⟨iX ws (eu ws s),rz ws s,ry ws s,rz ws (eg ws (eu ws s)),ry ws (eg ws (eu ws s))⟩
def bI(l:List cf):List Value:=l.flatMap cf.cells
def iu(ws:List ByteArray):Nat->PS->List cf × PS
 |0,s=>([],s)
 |n+1,s=>if bH ws cY s then (oy ws s.adv::(iu ws n (dQ ws s.adv)).1,(iu ws n (dQ ws s.adv)).2) else ([],s)
def Za(ws:List ByteArray)(s:PS):List cf:=oy ws s::(iu ws (ws.length+1) (dQ ws s)).1
def pP(ws:List ByteArray)(s:PS):PS:=(iu ws (ws.length+1) (dQ ws s)).2
section
variable {ws:List ByteArray} {s:PS}
theorem cQ:s.pos<=s.adv.pos:=Nat.le_succ _
theorem bZ(k:ByteArray):s.pos<=(aF ws k s).pos:=by unfold aF;split;exact cQ;exact zq4 _
theorem pI:s.pos<=(bz ws s).pos:=by unfold bz;split;exact Nat.le_succ _;exact zq4 _
theorem gS:s.pos<=(bU ws s).pos:=by unfold bU;split;exact cQ;exact pI
theorem se:s.pos<=(eu ws s).pos:=by unfold eu;split;exact Nat.le_succ _;exact gS
theorem NG:s.pos<=(eg ws s).pos:=by unfold eg;split;exact cQ;split;exact cQ;exact bZ _
theorem Ro:s.pos<=(yF ws s).pos:=by
 unfold yF nR pi;exact zq3 (zq3 (zq3 (zq3 (bZ _) se) (bZ _)) se) (bZ _)
theorem PL:s.pos<=(dQ ws s).pos:=by
 unfold dQ;split
 .exact cQ
 .split
  .exact zq3 cQ Ro
  .exact zq3 (zq3 se NG) se
end
section
variable {B:Nat} {WV:Value} {w:World} {P:Nat} {ws:List ByteArray} {s:PS} {F:List Nat} {wv vv hv nv:Value}
theorem zV(h:d9 B WV w P ws s F):
  Calls prog 159 #[.pointer (some ⟨P,0,none⟩)] w λe w'=>e=.returned (.agg (oy ws s).cells.toArray)/\∃F',d9 B WV w' P ws (dQ ws s) F'/\aq F w F' w':=by
 have HQ:=ab h;have HA:=λo=>ab (az nP (by decide) (h.alloc o));clear h;cases hb:bH ws nP s with
 |true =>
  have HK:Hid (oy ws s=⟨0,0,0,0,0⟩):=ab (if_pos hb);have HS:Hid (dQ ws s=kq ws nP s):=ab (by unfold dQ kq;rw[if_pos hb,if_pos hb]);simp only[hb]at HA;clear hb;go_enter func159,ntmps159;go_wp2_with fail
  refine(uh (HA _)).mono ?_;rintro e w1 ⟨rfl,dy,bN⟩;obtain⟨bB,jf,B9⟩:=bD (uh HQ).m bN;obtain⟨⟨a0,a1,a2,a3,a4⟩,g0,g1,g2,g3,g4⟩:=xL bB;have ep:=ab dy;have cg:=ab (((aq.refl F w).alloc _).trans bN);clear bB dy bN;go_wp2_with fail
  refine bodyPost_ret (v:=.agg #[.int .i64 0,.int .i64 0,.int .i64 0,.int .i64 0,.int .i64 0]) (by simp[results,Tryz.results159,go_sem,a0,a1,a2,a3,a4]) rfl ⟨by rw[uh HK];rfl,F,?_,?_⟩
  .rw[uh HS];exact(((((uh ep).setOther jf _).setOther jf _).setOther jf _).setOther jf _).setOther jf _
  .exact(((((uh cg).setCell (zq1 (zq4 _)) _).setCell (zq1 (zq4 _)) _).setCell (zq1 (zq4 _)) _).setCell (zq1 (zq4 _)) _).setCell (zq1 (zq4 _)) _
 |false =>
  have qC:Hid (kq ws nP s=s):=ab (if_neg (by simp[hb]));simp only[hb]at HA;cases aR:bH ws Fk s with
  |true =>
   have HK:Hid (oy ws s=T7 ws s.adv):=ab (by unfold oy;rw[hb,aR];rfl);have HS:Hid (dQ ws s=yF ws s.adv):=ab (by unfold dQ;rw[hb,aR];rfl);have JE:Hid (kq ws Fk s=s.adv):=ab (if_pos aR);have dS:=ab aR;clear hb aR;go_enter func159,ntmps159;go_wp2_with fail
   refine(uh (HA _)).mono ?_;rintro e w1 ⟨rfl,dy,bN⟩;obtain⟨bB,jf,B9⟩:=bD (uh HQ).m bN;rw[uh qC]at dy;have eU:=ab bB;have cg:=ab (((aq.refl F w).alloc _).trans bN);have j8:=az Fk (by decide) dy;rw[uh dS,uh JE]at j8;replace j8:=ab j8
   clear bB dy bN;go_wp2_with fail
   refine(uh j8).mono ?_;rintro e w2 ⟨rfl,bX,bO⟩;obtain⟨aR,gl,ye⟩:=ax (uh eU) jf bO;have dS:=ab aR;have dJ:=ab bX;have cj:=ab ((uh cg).trans bO);clear aR bX bO;go_wp2_with fail
   refine(MM (uh dJ)).mono ?_;rintro e w3 ⟨rfl,F3,eI,cF⟩;obtain⟨cU,tr,L4⟩:=ax (uh dS) gl cF;obtain⟨⟨a0,a1,a2,a3,a4⟩,g0,g1,g2,g3,g4⟩:=xL cU;have hU:=ab eI;have gW:=ab ((uh cj).trans cF);clear cU eI cF;obtain⟨k0,k1,k2,k3,k4,hat⟩:∃k0 k1 k2 k3 k4,T7 ws s.adv=⟨k0,k1,k2,k3,k4⟩:=⟨_,_,_,_,_,rfl⟩;rw[hat]at HK ⊢;clear hat;simp only[cf.cells];go_wp2_with fail
   refine bodyPost_ret (v:=.agg #[.int .i64 k0,.int .i64 k1,.int .i64 k2,.int .i64 k3,.int .i64 k4]) (by simp[results,Tryz.results159,go_sem,a0,a1,a2,a3,a4]) rfl ⟨by rw[uh HK];rfl,F3,?_,?_⟩
   .rw[uh HS];exact(((((uh hU).setOther tr _).setOther tr _).setOther tr _).setOther tr _).setOther tr _
   .exact(((((uh gW).setCell (zq1 (zq4 _)) _).setCell (zq1 (zq4 _)) _).setCell (zq1 (zq4 _)) _).setCell (zq1 (zq4 _)) _).setCell (zq1 (zq4 _)) _
  |false =>
   have HK:Hid (oy ws s=⟨iX ws (eu ws s),rz ws s,ry ws s,rz ws (eg ws (eu ws s)),ry ws (eg ws (eu ws s))⟩):=ab (by unfold oy;rw[hb,aR];rfl);have HS:Hid (dQ ws s=eu ws (eg ws (eu ws s))):=ab (by unfold dQ;rw[hb,aR];rfl);have JE:Hid (kq ws Fk s=s):=ab (if_neg (by simp[aR]));have dS:=ab aR;clear hb aR;go_enter func159,ntmps159;go_wp2_with fail
   refine(uh (HA _)).mono ?_;rintro e w1 ⟨rfl,dy,bN⟩;obtain⟨bB,jf,B9⟩:=bD (uh HQ).m bN;rw[uh qC]at dy;have eU:=ab bB;have cg:=ab (((aq.refl F w).alloc _).trans bN);have j8:=az Fk (by decide) dy;rw[uh dS,uh JE]at j8;replace j8:=ab j8
   clear bB dy bN;go_wp2_with fail
   refine(uh j8).mono ?_;rintro e w2 ⟨rfl,bX,bO⟩;obtain⟨aR,gl,ye⟩:=ax (uh eU) jf bO;have dS:=ab aR;have dJ:=ab bX;have cj:=ab ((uh cg).trans bO);clear aR bX bO;go_wp2_with fail
   refine(pG (uh dJ)).mono ?_;rintro e w3 ⟨rfl,F3,eI,cF⟩;obtain⟨cU,tr,L4⟩:=ax (uh dS) gl cF;have qY:=ab cU;have hU:=ab eI;have gW:=ab ((uh cj).trans cF);clear cU eI cF;go_wp2_with fail
   refine(zb ((uh hU).alloc _)).mono ?_;rintro e w4 ⟨rfl,kU,el⟩;obtain⟨mp,Mb,hl4⟩:=ax (uh qY) tr (((aq.refl F3 w3).alloc _).trans el);obtain⟨TE,Ca,uN⟩:=bD (uh hU).m el;have xu:=ab mp;have ZX:=ab TE;have mP:=ab kU;have k6:=ab ((uh gW).trans (((aq.refl F3 w3).alloc _).trans el));clear mp TE kU el;go_wp2_with fail
   refine(pG (uh mP)).mono ?_;rintro e w5 ⟨rfl,F5,qg,eY⟩;obtain⟨dL,Dg,TN⟩:=ax (uh xu) Mb eY;obtain⟨hc5,hm5,Dd⟩:=ax (uh ZX) Ca eY;obtain⟨⟨a0,a1,a2,a3,a4⟩,g0,g1,g2,g3,g4⟩:=xL dL;obtain⟨⟨d0,d1⟩,e0,e1⟩:=ju hc5;have Ec:=ab qg;have qZ:=ab ((uh k6).trans eY);clear dL hc5 qg eY;go_wp2_with fail
   refine bodyPost_ret (v:=.agg #[.int .i64 (iX ws (eu ws s)),.int .i64 (rz ws s),.int .i64 (ry ws s),.int .i64 (rz ws (eg ws (eu ws s))),.int .i64 (ry ws (eg ws (eu ws s)))]) (by simp[results,Tryz.results159,go_sem,cell?_alloc_past,TN,a0,a1,a2,a3,a4]) rfl ⟨by rw[uh HK];rfl,F5,?_,?_⟩
   .rw[uh HS];exact((((((uh Ec).setOther Dg _).setOther Dg _).setOther Dg _).setOther Dg _).setOther Dg _).alloc _
   .exact((((((uh qZ).setCell (zq1 (zq4 _)) _).setCell (zq1 (zq4 _)) _).setCell (zq1 (zq4 _)) _).setCell (zq1 (zq4 _)) _).setCell (zq1 (zq4 _)) _).alloc _
end
structure Pr where
 k:Nat
 l:Nat
 r:Nat
def aE:Pr:=⟨0,0,0⟩
structure CF where
 cl:List Nat
 ap:List Pr
 ow:List Pr
def ur(k i:Nat):Nat:=if k=1 then 1+i else if k=2 then 5+i else 0
def mW(c:List Nat)(a:cf):List Nat:=if a.k=1 then c.map (λx=>if x=c.getD (ur a.rk a.ri) 0 then c.getD (ur a.lk a.li) 0 else x) else c
def mA(al:List cf):List Nat:=al.foldl mW (range 13)
def iV(c:List Nat)(a:cf):Pr:=⟨a.k,c.getD (ur a.lk a.li) 0,c.getD (ur a.rk a.ri) 0⟩
def ej(al:List cf):CF:=⟨(mA al).take 5,(al.filter (λa=>a.k==2)).map (iV (mA al)),(al.filter (λa=>a.k==3||a.k==4)).map (iV (mA al))⟩
def er:List Pr->Nat->Option Nat
 |[],_=>none
 |p::r,c=>if p.l=c then some 0 else (er r c).map (·+1)
def vi:List Nat->List Pr->Bool
 |_,[]=>false
 |seen,p::r=>if p.l∈seen then true else vi (p.l::seen) r
def kz(f:CF):Bool:=f.ap.any (λp=>p.l==p.r)||vi [f.cl.getD 0 0] f.ow
def sM(f:CF)(a b:Nat):Bool:=((er f.ow a).isSome&&((er f.ow b).isSome||b==f.cl.getD 0 0))||((er f.ow b).isSome&&a==f.cl.getD 0 0)
def gi(f:CF)(a b:Nat):Bool:=if a=b then false else f.ap.any (λp=>(p.l==a&&p.r==b)||(p.l==b&&p.r==a))||sM f a b
structure SS where
 bd:List (Option Nat)
 ot:List (Option Nat)
 un:Nat
 pl:List Bool
 st:Int
def SS.b(s:SS)(c:Nat):Option Nat:=s.bd.getD c none
def I3(V T:CF)(s:SS):Bool:=T.ap.all (λp=>p.l != p.r&&(match s.b p.l,s.b p.r with|some a,some b=>gi V a b|_,_=>true))
def OK(T:CF)(s:SS):List Nat->Option Nat->Option Nat
 |[],o=>o
 |k::r,o=>if s.pl.getD k false=true then OK T s r o else if (s.b (T.ow.getD k aE).l).isSome=true then some k else OK T s r (if o.isSome=true then o else some k)
def Vg(T:CF)(s:SS):Option Nat:=OK T s (range s.pl.length) none
def DI(W:SS->Nat->Nat->Nat->Bool × SS)(k left count:Nat):List Pr->SS->Bool × SS
 |[],s=>(false,{ s with bd:=s.bd.set left none })
 |p::r,s=>match W { s with bd:=s.bd.set left (some p.l) } k p.l count with
  |(true,s')=>(true,s')
  |(false,s')=>DI W k left count r s'
def wU(W:SS->Nat->Nat->Nat->Bool × SS)(V T:CF)(s:SS)(count:Nat):Bool × SS :=
 if T.ow.length=count then (decide (s.un=0)&&I3 V T s,s)
 else if s.un<T.ow.length-count then (false,s)
 else match Vg T s with
  |none=>(false,s)
  |some k=>match s.b (T.ow.getD k aE).l with
   |some at_=>W s k at_ count
   |none=>DI W k (T.ow.getD k aE).l count V.ow s
def CN(P:SS->Nat->Bool × SS)(T:CF)(s:SS)(k at_ count:Nat):Bool × SS :=
 if s.b (T.ow.getD k aE).r≠none/\s.b (T.ow.getD k aE).r≠some at_ then (false,s)
 else match P { s with bd:=s.bd.set (T.ow.getD k aE).r (some at_),pl:=s.pl.set k true } (count+1) with
  |(true,s')=>(true,s')
  |(false,s')=>(false,{ s' with pl:=s'.pl.set k false,bd:=s'.bd.set (T.ow.getD k aE).r (s.b (T.ow.getD k aE).r) })
def wk(V T:CF):Nat->SS->Nat->Nat->Nat->Bool × SS
 |0,s,_,_,_=>(false,s)
 |m+1,s,k,at_,count =>
  if wrap64 (s.st-1)<0 then (false,{ s with st:=wrap64 (s.st-1) })
  else match er V.ow at_ with
   |none=>(false,{ s with st:=wrap64 (s.st-1) })
   |some i =>
    if s.ot.getD i none≠none then (false,{ s with st:=wrap64 (s.st-1) })
    else if (T.ow.getD k aE).k≠4/\(V.ow.getD i aE).k=4 then (false,{ s with st:=wrap64 (s.st-1) })
    else match CN (wU (wk V T m) V T) T { s with st:=wrap64 (s.st-1),ot:=s.ot.set i (some k),un:=s.un-1 } k (V.ow.getD i aE).r count with
     |(true,s')=>(true,s')
     |(false,s2)=>match (if (T.ow.getD k aE).k=4 then wk V T m s2 k (V.ow.getD i aE).r count else (false,s2)) with
      |(true,s')=>(true,s')
      |(false,s3)=>(false,{ s3 with ot:=s3.ot.set i none,un:=s3.un+1 })
