import Derived.Test.YtciihepbeacppaaGreatM00
import Derived.Deep.LoopGhost
set_option maxRecDepth 100000
set_option maxHeartbeats 0
namespace Go.Proofs.YtciihepbeacppaaGreat
open Tryz Go.RowKit List World Below
set_option linter.unusedVariables false
def dH(B:Nat)(WV:Value)(w:World)(P:Nat)(ws:List ByteArray)(s:PS)(F:List Nat)(wv vv hv nv:Value):Prop :=
  w.heap[P]?=some (.cells #[wv,.int .i64 s.pos,.bool s.failed,vv,hv,nv] 133 (0,0))/\(B<=P/\wv=WV) /\
  w.ownsRow B 9 1 wv ws.length (ws.map Value.string) /\
  w.ownsRow B 5 1 vv s.vars.length (bc s.vars) /\
  w.ownsRow B 5 1 hv s.hid.length (bc s.hid) /\
  w.ownsRow B 186 6 nv s.nodes.length (bh s.nodes) /\
  F=P::(wv.ownBlock.toList++(vv.ownBlock.toList++(hv.ownBlock.toList++nv.ownBlock.toList)))/\F.Nodup
section
variable {B:Nat} {WV:Value} {w:World} {P:Nat} {ws:List ByteArray} {s:PS} {F:List Nat} {wv vv hv nv:Value}
theorem lT.named(h:lT B WV w P ws s F):∃wv vv hv nv,dH B WV w P ws s F wv vv hv nv:=h
theorem dH.is(h:dH B WV w P ws s F wv vv hv nv):lT B WV w P ws s F:=⟨wv,vv,hv,nv,h⟩
theorem dH.of_eq{w':World}(h:dH B WV w P ws s F wv vv hv nv)(he:∀k∈F,w'.heap[k]?=w.heap[k]?):dH B WV w' P ws s F wv vv hv nv:=by
 obtain⟨hP,hB,h1,h2,h3,h4,hF,hN⟩:=h;have hm:∀k,k=P\/wv.ownBlock=some k\/vv.ownBlock=some k\/hv.ownBlock=some k\/nv.ownBlock=some k->k∈F:=by
  intro k hk;rw[hF];simpa using hk
 exact⟨by rw[he P (hm P (by simp))];exact hP,hB,ae h1 (λk hk=>he k (hm k (by simp[hk]))),ae h2 (λk hk=>he k (hm k (by simp[hk]))),
  ae h3 (λk hk=>he k (hm k (by simp[hk]))),ae h4 (λk hk=>he k (hm k (by simp[hk]))),hF,hN⟩
theorem dH.drewN(h:dH B WV w P ws s F wv vv hv nv)(n:Nat):dH B WV (w.drewN n) P ws s F wv vv hv nv:=h.of_eq (λ_ _=>rfl)
theorem dH.alloc(h:dH B WV w P ws s F wv vv hv nv)(o:Obj):dH B WV (w.alloc o) P ws s F wv vv hv nv:=h.of_eq (λk hk=>heap_alloc _ _ _ (h.is.mem k hk).2)
theorem dH.setPos(h:dH B WV w P ws s F wv vv hv nv)(n:Nat):dH B WV (w.setCell ⟨P,1,none⟩ (.int .i64 n)) P ws { s with pos:=n } F wv vv hv nv:=by
 obtain⟨hP,hB,h1,h2,h3,h4,hF,hN⟩:=h;have aH:∀k,wv.ownBlock=some k\/vv.ownBlock=some k\/hv.ownBlock=some k\/nv.ownBlock=some k->k≠P:=by
  rw[hF]at hN;rintro k hk rfl;exact(nodup_cons.1 hN).1 (by simpa using hk)
 have hk:∀k,wv.ownBlock=some k\/vv.ownBlock=some k\/hv.ownBlock=some k\/nv.ownBlock=some k->(w.setCell ⟨P,1,none⟩ (.int .i64 n)).heap[k]?=w.heap[k]? :=
  λk hk=>heap_setCell _ _ _ _ (aH k hk)
 exact⟨yz hP _,hB,ae h1 (λk h=>hk k (by simp[h])),ae h2 (λk h=>hk k (by simp[h])),ae h3 (λk h=>hk k (by simp[h])),ae h4 (λk h=>hk k (by simp[h])),hF,hN⟩
theorem dH.apart(h:dH B WV w P ws s F wv vv hv nv):(∀k,wv.ownBlock=some k\/vv.ownBlock=some k\/hv.ownBlock=some k\/nv.ownBlock=some k->k≠P) /\
  (∀k,vv.ownBlock=some k->wv.ownBlock≠some k/\hv.ownBlock≠some k/\nv.ownBlock≠some k)/\(∀k,hv.ownBlock=some k->wv.ownBlock≠some k/\vv.ownBlock≠some k/\nv.ownBlock≠some k) /\
  (∀k,nv.ownBlock=some k->wv.ownBlock≠some k/\vv.ownBlock≠some k/\hv.ownBlock≠some k):=by
 obtain⟨hP,hB,h1,h2,h3,h4,hF,hN⟩:=h;rw[hF]at hN;cases a:wv.ownBlock <;> cases b:vv.ownBlock <;> cases c:hv.ownBlock <;> cases d:nv.ownBlock <;> simp[a,b,c,d]at hN ⊢ <;> grind
theorem Vq{P g:Nat}{a b c d:List Nat}(h:(P::(a++(b++(c++d)))).Nodup)(hg:g ∉ P::(a++(c++d))):(P::(a++([g]++(c++d)))).Nodup:=by
 simp only[nodup_cons,nodup_append,mem_append,mem_cons]at *;grind
theorem aa4{P g:Nat}{a b c d:List Nat}(h:(P::(a++(b++(c++d)))).Nodup)(hg:g ∉ P::(a++(b++d))):(P::(a++(b++([g]++d)))).Nodup:=by
 simp only[nodup_cons,nodup_append,mem_append,mem_cons]at *;grind
theorem Qp{P g:Nat}{a b c d:List Nat}(h:(P::(a++(b++(c++d)))).Nodup)(hg:g ∉ P::(a++(b++c))):(P::(a++(b++(c++[g])))).Nodup:=by
 simp only[nodup_cons,nodup_append,mem_append,mem_cons]at *;grind
theorem dH.pushVars {w3:World} {o:Obj} {g cap:Nat} (x:UInt8) (h:dH B WV w P ws s F wv vv hv nv) (hg:(w.alloc o).grownBy w3 vv.ownBlock)
  (aL:w3.ownsRow B 5 1 (.slice (some ⟨g,0,none⟩) (s.vars.length+1) cap) (s.vars.length+1) (bc s.vars++[.int .u8 (x.toNat:Int)]))
  (hb:some g=vv.ownBlock\/g=(w.alloc o).heap.size) :
  ∃F',lT B WV (w3.setCell ⟨P,3,none⟩ (.slice (some ⟨g,0,none⟩) (s.vars.length+1) cap)) P ws { s with vars:=s.vars++[x] } F'/\ar F w F' (w3.setCell ⟨P,3,none⟩ (.slice (some ⟨g,0,none⟩) (s.vars.length+1) cap)):=by
 have eJ:=h.apart;have gW:=h.is.mem;have mO:(w.alloc o).heap.size=w.heap.size+1:=by simp
 obtain⟨hP,hB,h1,h2,h3,h4,hF,hN⟩:=h;have zh:P<w.heap.size:=(gW P (by rw[hF];simp)).2;have hgP:g≠P:=by
  rcases hb with hb|hb
  .exact eJ.1 g (by simp[<-hb])
  .omega
 have hU:∀k,k<w.heap.size->vv.ownBlock≠some k->k≠P->(w3.setCell ⟨P,3,none⟩ (.slice (some ⟨g,0,none⟩) (s.vars.length+1) cap)).heap[k]?=w.heap[k]?:=by
  intro k hk aH hkP;rw[heap_setCell _ _ _ _ hkP,hg.block k (by omega) (λe=>aH e.symm),heap_alloc _ _ _ hk]
 have KE:w3.heap[P]?=some (.cells #[wv,.int .i64 s.pos,.bool s.failed,vv,hv,nv] 133 (0,0)):=by
  rw[hg.block P (by omega) (λe=>(eJ.1 P (by simp[<-e])) rfl),heap_alloc _ _ _ zh];exact hP
 have au:∀k,wv.ownBlock=some k\/vv.ownBlock=some k\/hv.ownBlock=some k\/nv.ownBlock=some k->k<w.heap.size:=λk hk=>(gW k (by rw[hF];simpa using zq1 hk)).2;have hgF:g∈F\/g=w.heap.size+1:=by
  rcases hb with hb|hb
  .left;rw[hF];simp[<-hb]
  .right;omega
 refine⟨P::(wv.ownBlock.toList++([g]++(hv.ownBlock.toList++nv.ownBlock.toList))),⟨wv,.slice (some ⟨g,0,none⟩) (s.vars.length+1) cap,hv,nv,yz KE _,hB,?_,?_,?_,?_,rfl,?_⟩,⟨hg.os,hg.tape,hg.output,?_,?_,?_⟩⟩
 .exact ae h1 (λk hk=>hU k (au k (by simp[hk])) (λe=>by have:=eJ;grind) (λe=>(eJ.1 k (by simp[hk])) e))
 .exact ae (iP aL (by simp) (by simp[bc])) (λk hk=>heap_setCell _ _ _ _ (by simp[Value.ownBlock]at hk;subst hk;exact hgP))
 .exact ae h3 (λk hk=>hU k (au k (by simp[hk])) (λe=>by have:=eJ;grind) (λe=>(eJ.1 k (by simp[hk])) e))
 .exact ae h4 (λk hk=>hU k (au k (by simp[hk])) (λe=>by have:=eJ;grind) (λe=>(eJ.1 k (by simp[hk])) e))
 .rw[hF]at hN;rcases hb with hb|hb
  .have e:vv.ownBlock.toList=[g]:=(by rw[<-hb];rfl);rw[e]at hN;exact hN
  .refine Vq hN ?_;intro hm;have:=au g (by simpa using Or.resolve_left (mem_cons.1 hm) hgP |> λz=>(by grind));omega
 .have:=hg.size;simp[World.setCell];omega
 .intro k hk hkF;exact hU k hk (λe=>hkF (by rw[hF];simp[e])) (λe=>hkF (by rw[hF,e];simp))
 .intro k hk;rw[hF];rw[hF]at hgF;grind
theorem dH.pushHid {w3:World} {o:Obj} {g cap:Nat} (x:UInt8) (h:dH B WV w P ws s F wv vv hv nv) (hg:(w.alloc o).grownBy w3 hv.ownBlock)
  (aL:w3.ownsRow B 5 1 (.slice (some ⟨g,0,none⟩) (s.hid.length+1) cap) (s.hid.length+1) (bc s.hid++[.int .u8 (x.toNat:Int)]))
  (hb:some g=hv.ownBlock\/g=(w.alloc o).heap.size) :
  ∃F',lT B WV (w3.setCell ⟨P,4,none⟩ (.slice (some ⟨g,0,none⟩) (s.hid.length+1) cap)) P ws { s with hid:=s.hid++[x] } F'/\ar F w F' (w3.setCell ⟨P,4,none⟩ (.slice (some ⟨g,0,none⟩) (s.hid.length+1) cap)):=by
 have eJ:=h.apart;have gW:=h.is.mem;have mO:(w.alloc o).heap.size=w.heap.size+1:=by simp
 obtain⟨hP,hB,h1,h2,h3,h4,hF,hN⟩:=h;have zh:P<w.heap.size:=(gW P (by rw[hF];simp)).2;have hgP:g≠P:=by
  rcases hb with hb|hb
  .exact eJ.1 g (by simp[<-hb])
  .omega
 have hU:∀k,k<w.heap.size->hv.ownBlock≠some k->k≠P->(w3.setCell ⟨P,4,none⟩ (.slice (some ⟨g,0,none⟩) (s.hid.length+1) cap)).heap[k]?=w.heap[k]?:=by
  intro k hk aH hkP;rw[heap_setCell _ _ _ _ hkP,hg.block k (by omega) (λe=>aH e.symm),heap_alloc _ _ _ hk]
 have KE:w3.heap[P]?=some (.cells #[wv,.int .i64 s.pos,.bool s.failed,vv,hv,nv] 133 (0,0)):=by
  rw[hg.block P (by omega) (λe=>(eJ.1 P (by simp[<-e])) rfl),heap_alloc _ _ _ zh];exact hP
 have au:∀k,wv.ownBlock=some k\/vv.ownBlock=some k\/hv.ownBlock=some k\/nv.ownBlock=some k->k<w.heap.size:=λk hk=>(gW k (by rw[hF];simpa using zq1 hk)).2;have hgF:g∈F\/g=w.heap.size+1:=by
  rcases hb with hb|hb
  .left;rw[hF];simp[<-hb]
  .right;omega
 refine⟨P::(wv.ownBlock.toList++(vv.ownBlock.toList++([g]++nv.ownBlock.toList))),⟨wv,vv,.slice (some ⟨g,0,none⟩) (s.hid.length+1) cap,nv,yz KE _,hB,?_,?_,?_,?_,rfl,?_⟩,⟨hg.os,hg.tape,hg.output,?_,?_,?_⟩⟩
 .exact ae h1 (λk hk=>hU k (au k (by simp[hk])) (λe=>by have:=eJ;grind) (λe=>(eJ.1 k (by simp[hk])) e))
 .exact ae h2 (λk hk=>hU k (au k (by simp[hk])) (λe=>by have:=eJ;grind) (λe=>(eJ.1 k (by simp[hk])) e))
 .exact ae (iP aL (by simp) (by simp[bc])) (λk hk=>heap_setCell _ _ _ _ (by simp[Value.ownBlock]at hk;subst hk;exact hgP))
 .exact ae h4 (λk hk=>hU k (au k (by simp[hk])) (λe=>by have:=eJ;grind) (λe=>(eJ.1 k (by simp[hk])) e))
 .rw[hF]at hN;rcases hb with hb|hb
  .have e:hv.ownBlock.toList=[g]:=(by rw[<-hb];rfl);rw[e]at hN;exact hN
  .refine aa4 hN ?_;intro hm;have:=au g (by simpa using Or.resolve_left (mem_cons.1 hm) hgP |> λz=>(by grind));omega
 .have:=hg.size;simp[World.setCell];omega
 .intro k hk hkF;exact hU k hk (λe=>hkF (by rw[hF];simp[e])) (λe=>hkF (by rw[hF,e];simp))
 .intro k hk;rw[hF];rw[hF]at hgF;grind
theorem dH.pushNodes {w3:World} {o:Obj} {g cap:Nat} (x:Nd) (h:dH B WV w P ws s F wv vv hv nv) (hg:(w.alloc o).grownBy w3 nv.ownBlock)
  (aL:w3.ownsRow B 186 6 (.slice (some ⟨g,0,none⟩) (s.nodes.length+1) cap) (s.nodes.length+1) (bh s.nodes++x.cells))
  (hb:some g=nv.ownBlock\/g=(w.alloc o).heap.size) :
  ∃F',lT B WV (w3.setCell ⟨P,5,none⟩ (.slice (some ⟨g,0,none⟩) (s.nodes.length+1) cap)) P ws { s with nodes:=s.nodes++[x] } F'/\ar F w F' (w3.setCell ⟨P,5,none⟩ (.slice (some ⟨g,0,none⟩) (s.nodes.length+1) cap)):=by
 have eJ:=h.apart;have gW:=h.is.mem;have mO:(w.alloc o).heap.size=w.heap.size+1:=by simp
 obtain⟨hP,hB,h1,h2,h3,h4,hF,hN⟩:=h;have zh:P<w.heap.size:=(gW P (by rw[hF];simp)).2;have hgP:g≠P:=by
  rcases hb with hb|hb
  .exact eJ.1 g (by simp[<-hb])
  .omega
 have hU:∀k,k<w.heap.size->nv.ownBlock≠some k->k≠P->(w3.setCell ⟨P,5,none⟩ (.slice (some ⟨g,0,none⟩) (s.nodes.length+1) cap)).heap[k]?=w.heap[k]?:=by
  intro k hk aH hkP;rw[heap_setCell _ _ _ _ hkP,hg.block k (by omega) (λe=>aH e.symm),heap_alloc _ _ _ hk]
 have KE:w3.heap[P]?=some (.cells #[wv,.int .i64 s.pos,.bool s.failed,vv,hv,nv] 133 (0,0)):=by
  rw[hg.block P (by omega) (λe=>(eJ.1 P (by simp[<-e])) rfl),heap_alloc _ _ _ zh];exact hP
 have au:∀k,wv.ownBlock=some k\/vv.ownBlock=some k\/hv.ownBlock=some k\/nv.ownBlock=some k->k<w.heap.size:=λk hk=>(gW k (by rw[hF];simpa using zq1 hk)).2;have hgF:g∈F\/g=w.heap.size+1:=by
  rcases hb with hb|hb
  .left;rw[hF];simp[<-hb]
  .right;omega
 refine⟨P::(wv.ownBlock.toList++(vv.ownBlock.toList++(hv.ownBlock.toList++[g]))),⟨wv,vv,hv,.slice (some ⟨g,0,none⟩) (s.nodes.length+1) cap,yz KE _,hB,?_,?_,?_,?_,rfl,?_⟩,⟨hg.os,hg.tape,hg.output,?_,?_,?_⟩⟩
 .exact ae h1 (λk hk=>hU k (au k (by simp[hk])) (λe=>by have:=eJ;grind) (λe=>(eJ.1 k (by simp[hk])) e))
 .exact ae h2 (λk hk=>hU k (au k (by simp[hk])) (λe=>by have:=eJ;grind) (λe=>(eJ.1 k (by simp[hk])) e))
 .exact ae h3 (λk hk=>hU k (au k (by simp[hk])) (λe=>by have:=eJ;grind) (λe=>(eJ.1 k (by simp[hk])) e))
 .exact ae (iP aL (by simp) (by simp[bh])) (λk hk=>heap_setCell _ _ _ _ (by simp[Value.ownBlock]at hk;subst hk;exact hgP))
 .rw[hF]at hN;rcases hb with hb|hb
  .have e:nv.ownBlock.toList=[g]:=(by rw[<-hb];rfl);rw[e]at hN;exact hN
  .refine Qp hN ?_;intro hm;have:=au g (by simpa using Or.resolve_left (mem_cons.1 hm) hgP |> λz=>(by grind));omega
 .have:=hg.size;simp[World.setCell];omega
 .intro k hk hkF;exact hU k hk (λe=>hkF (by rw[hF];simp[e])) (λe=>hkF (by rw[hF,e];simp))
 .intro k hk;rw[hF];rw[hF]at hgF;grind
end
def Cm(u:ByteArray):UInt8:=u.data.toList.headD 0
def put(l:List UInt8)(c:UInt8):List UInt8:=if plc l c=l.length then l++[c] else l
def mN(ws:List ByteArray)(s:PS):Nat:=if aK (pk ws s) then plc s.vars (Cm (pk ws s)) else 0
def bD(ws:List ByteArray)(s:PS):PS:=if aK (pk ws s) then { s with pos:=s.pos+1,vars:=put s.vars (Cm (pk ws s)) } else s.fail
theorem AC{u:ByteArray}(h:0<u.size):Cm u=u[0]:=by
 obtain⟨⟨l⟩⟩:=u;match l,h with
 |c::r,_=>rfl
theorem Lk{u:ByteArray}(h:aK u=true):u.size=1:=by
 by_cases hs:u.size=1
 .exact hs
 .rw[q7 u hs]at h;cases h
theorem QR(l:List UInt8)(c:UInt8):(put l c).length<=l.length+1:=by unfold put;split <;> simp
theorem infoNode:(prog.info? 186).map (λi=>(i.zero,i.size,i.bytes))=some (some (.agg #[.int .i64 0,.int .i64 0,.int .i64 0,.int .i64 0,.int .i64 0,.int .i64 0]),6,48):=by kernel_rfl
section
variable {B:Nat} {WV:Value} {w:World} {P:Nat} {ws:List ByteArray} {s:PS} {F:List Nat} {wv vv hv nv:Value}
theorem Ei.va(h:Ei ws s)(hp:s.pos<ws.length)(c:UInt8):Ei ws { s with pos:=s.pos+1,vars:=put s.vars c }:=by
 obtain⟨a,b,d,e⟩:=h;have:=QR s.vars c;simp only[Ei];omega
theorem dH.readsV(h:dH B WV w P ws s F wv vv hv nv):w.cell? ⟨P,1,none⟩=some (.int .i64 s.pos)/\w.cell? ⟨P,2,none⟩=some (.bool s.failed)/\w.cell? ⟨P,3,none⟩=some vv/\w.cell? ⟨P,4,none⟩=some hv/\w.cell? ⟨P,5,none⟩=some nv/\(∀j,w.frozen? ⟨P,j,none⟩=false):=by
 obtain⟨hP,_⟩:=h;obtain⟨⟨c0,c1,c2,c3,c4,c5⟩,fz⟩:=jD hP;exact⟨c1,c2,c3,c4,c5,fz⟩
theorem sE{e:TypeId}{v:Value}{sz n:Nat}{xs:List Value}(h:w.ownsRow B e sz v n xs)(k:Nat)(o:Obj):((w.drewN k).alloc o).ownsRow B e sz v n xs:=ownsRow.alloc (w:=w.drewN k) h o
theorem Qw(w:World)(k:Nat)(x:Value)(T:TypeId):∀(j:Nat) (u:Value),[x][j]?=some u->((w.drewN k).alloc (.cells #[x] T)).cell? ((⟨w.heap.size,0,none⟩:Addr).add j)=some u:=Bx (w.drewN k) x T
theorem wI(n:Int):∀u∈[Value.int .u8 n],u.oneCell'=true:=by intro u hu;simp at hu;subst hu;rfl
theorem zs{B:Nat}(h:B<=w.heap.size)(k:Nat)(o:Obj):B<=((w.drewN k).alloc o).heap.size:=by simp;omega
theorem sY{w2:World}{o:Obj}{row:Option Nat}{k:Nat}(hg:((w.drewN k).alloc o).grownBy w2 row)(hP:P<w.heap.size)(aH:row≠some P):w2.heap[P]?=w.heap[P]?:=by
 rw[hg.block P (by simp;omega) (λe=>aH e.symm)];exact heap_alloc (w.drewN k) _ _ hP
theorem iq{w2:World}{o:Obj}{row:Option Nat}{k:Nat}(hg:((w.drewN k).alloc o).grownBy w2 row)(hP:P<w.heap.size)(aH:row≠some P)(j:Nat){v:Value}(h:w.cell? ⟨P,j,none⟩=some v):w2.cell? ⟨P,j,none⟩=some v :=
 (cell?_of_block (a:=⟨P,j,none⟩) (sY hg hP aH)).trans h
theorem fs{w2:World}{o:Obj}{row:Option Nat}{k:Nat}(hg:((w.drewN k).alloc o).grownBy w2 row)(hP:P<w.heap.size)(aH:row≠some P)(j:Nat){b:Bool}(h:w.frozen? ⟨P,j,none⟩=b):w2.frozen? ⟨P,j,none⟩=b :=
 (World.frozen?_of_block (a:=⟨P,j,none⟩) (sY hg hP aH)).trans h
theorem kL{n j:Nat}{v:Value}{l:List UInt8}{c:UInt8}(hj:j=plc l c)(h:w.ownsRow B 5 1 v l.length (bc l))(hl:l.length<=20000):
  Calls prog 212 #[v,.int .u8 (c.toNat:Int)] (w.drewN n) λe w''=>e=.returned (.int .i64 j)/\∃m,w''=w.drewN m:=by
 subst hj;exact Calls.quiet_of_same (LH (B:=B) (w:=w.drewN n) c h hl)
theorem fB(h:fh B WV w P ws s F):
  Calls prog 215 #[.pointer (some ⟨P,0,none⟩)] w λe w'=>e=.returned (.int .i64 (mN ws s))/\∃F',fh B WV w' P ws (bD ws s) F'/\ar F w F' w':=by
 obtain⟨i0,hi,gX,gy,gK⟩:=info_parts infoByte;have HQ:=ab h;have HK:=ab (lC h);obtain⟨wv,vv,hv,nv,ew⟩:=h.m.named;obtain⟨hl,hp,Gc,hhl⟩:=h.f;clear h;obtain⟨u,hu⟩:∃u,u=pk ws s:=⟨_,rfl⟩;have HU:=ab hu;rw[<-hu]at HK;clear hu;cases iE:aK u with
 |false =>
  have HI:Hid (mN ws s=0):=ab (by unfold mN;rw[<-uh HU,iE];rfl);have HS:Hid (bD ws s=s.fail):=ab (by unfold bD;rw[<-uh HU,iE];rfl);obtain⟨c1,c2,c3,c4,c5,fz⟩:=ew.readsV;have f2:=fz 2;clear c1 c3 c4 c5 fz ew;go_enter func215,ntmps215;go_wp2_with (first|(go_at_call 160;refine(uh HK).mono ?_;rintro e w' ⟨rfl,n,rfl⟩)|(go_at_call 248;refine(ng u _).mono ?_;rintro e w' ⟨rfl,rfl⟩))
  go_ret;exact⟨bi (by rw[uh HI];rfl),F,⟨by rw[uh HS];exact((uh HQ).m.drewN n).setFailed true,by rw[uh HS];exact(uh HQ).f⟩,((ar.refl F w).drewN n).setCell (zq0 (uh HQ).m.memP) _⟩
 |true =>
  have hus:0<u.size:=by rw[Lk iE];omega
  have HI:Hid (mN ws s=plc s.vars u[0]):=ab (by unfold mN;rw[<-uh HU,iE,if_pos rfl,AC hus]);have HS:Hid (bD ws s={ s with pos:=s.pos+1,vars:=put s.vars u[0] }):=ab (by unfold bD;rw[<-uh HU,iE,if_pos rfl,AC hus]);have au:s.pos<ws.length:=(zA (by rw[<-uh HU];omega)).2;have aas:=wO s.vars u[0];obtain⟨j,hj⟩:∃j,j=plc s.vars u[0]:=⟨_,rfl⟩;have HJ:=ab hj;rw[<-hj]at aas;clear hj;obtain⟨ao,cap,rfl,hm,_⟩:=lX ew.2.2.2.1;obtain⟨c1,c2,c3,c4,c5,fz⟩:=ew.readsV;have f1:=fz 1;have x8:=ab ew;clear fz c2 c3 c4 c5 ew;go_enter func215,ntmps215;go_wp2_with (first|(go_at_call 160;refine(uh HK).mono ?_;rintro e w' ⟨rfl,n,rfl⟩)|(go_at_call 248;refine(ng u _).mono ?_;rintro e w' ⟨rfl,rfl⟩))
  have sm:=((uh x8).drewN n).setPos (s.pos+1);have oW:ar F w F ((w.drewN n).setCell ⟨P,1,none⟩ (.int .i64 ((s.pos:Int)+1))):=((ar.refl F w).drewN n).setCell (zq0 (uh HQ).m.memP) _;rw[show(((s.pos+1:Nat)):Int)=(s.pos:Int)+1 by omega]at sm;generalize (w.drewN n).setCell ⟨P,1,none⟩ (.int .i64 ((s.pos:Int)+1))=w1 at sm oW ⊢;clear c1 f1;obtain⟨_,_,c3,_,_,fz⟩:=sm.readsV;have f3:=fz 3;have bp:=sm.2.2.2.1;have HR:=ab bp;have yG:=ab sm;have dh:=ab oW;clear fz sm oW bp;have zh:P<w1.heap.size:=((uh yG).is.mem P (uh yG).is.memP).2;have Ug:B<=w1.heap.size:=by have:=((uh yG).is.mem P (uh yG).is.memP).1;omega
  have Eo:Hid ((Value.slice ao s.vars.length cap).ownBlock≠some P):=ab (λe=>(uh yG).apart.1 P (by simp[e]) rfl);by_cases fT:j=s.vars.length
  .have hjt:((j:Int)==(s.vars.length:Int))=true:=(by simp[fT]);have Yr:=ab fT;clear fT;have c3a:∀(k:Nat) (o:Obj),((w1.drewN k).alloc o).cell? ⟨P,3,none⟩=some (.slice ao s.vars.length cap):=λk o=>(cell?_of_block (a:=⟨P,3,none⟩) (heap_alloc (w1.drewN k) o P zh)).trans c3;go_quiet ((go_at_call 212;exact kL (uh HJ) (uh HR) (by omega)))
   go_wp2_with fail
   go_region_law (refine jy _ rfl (.tmp 38) (.tmp 41) 101 rfl B 5 i0 (.int .u8 0) 1 1 underlying101 hi gX gy gK rfl (by decide) (.slice ao s.vars.length cap) s.vars.length (bc s.vars) (by simp[Act.eval]) (sE (uh HR) _ _) ⟨w1.heap.size,0,none⟩ 1 [.int .u8 (u[0].toNat:Int)] (by simp[Act.eval]) rfl (Qw _ _ _ _) (wI _) (by omega) (by omega) (zs Ug _ _) ?_;intro g2 cap2 w2 br aM dW;have c3':=iq aM zh (uh Eo) 3 c3;have f3':=fs aM zh (uh Eo) 3 f3;have HO2:=ab br;have HG2:=ab aM;have eO:=ab dW;clear br aM dW)
   all_goals
    go_wp2_with fail
    go_ret;obtain⟨F',ZG,ZS⟩:=dH.pushVars u[0] ((uh yG).drewN _) (uh HG2) (uh HO2) (uh eO);refine⟨bi (by rw[uh HI,<-uh HJ]),F',⟨?_,?_⟩,((uh dh).drewN _).trans ZS⟩
    .rw[uh HS];unfold put;rw[if_pos (by rw[<-uh HJ];exact uh Yr)];exact ZG
    .rw[uh HS];exact(uh HQ).f.va au _
  .have hjt:((j:Int)==(s.vars.length:Int))=false:=(by simp;omega);have Yr:=ab fT;clear fT;go_quiet ((go_at_call 212;exact kL (uh HJ) (uh HR) (by omega)))
   go_wp2_with fail
   go_ret;refine⟨bi (by rw[uh HI,<-uh HJ]),F,⟨?_,?_⟩,(uh dh).drewN _⟩
   .rw[uh HS];unfold put;rw[if_neg (by rw[<-uh HJ];exact uh Yr)];exact(uh yG).is.drewN _
   .rw[uh HS];exact(uh HQ).f.va au _
end
def kt:ByteArray:=⟨#[110,105,108]⟩
def dS(ws:List ByteArray)(s:PS):Nat:=if bK ws kt s then 0 else 1
def fe(ws:List ByteArray)(s:PS):Nat:=if bK ws kt s then 0 else mN ws s
def b9(ws:List ByteArray)(s:PS):PS:=if bK ws kt s then s.adv else bD ws s
section
variable {B:Nat} {WV:Value} {w:World} {P:Nat} {ws:List ByteArray} {s:PS} {F:List Nat}
theorem bG{w1:World}{F':List Nat}{xs:Array Value}{T:TypeId}(h0:lT B WV w P ws s F)(hS:ar F (w.alloc (.cells xs T)) F' w1):
  w1.heap[w.heap.size]?=some (.cells xs T (0,0))/\w.heap.size ∉ F'/\w.heap.size<w1.heap.size:=by
 have hn:w.heap.size ∉ F:=λhm=>by have:=(h0.mem _ hm).2;omega
 refine⟨?_,?_,?_⟩
 .rw[hS.block _ (by simp) hn];exact heap_alloc_new w _
 .intro hm;rcases hS.foot _ hm with h|h
  .exact hn h
  .simp at h;omega
 .have:=hS.size;simp at this;omega
theorem az{w0 w1:World}{F':List Nat}{r:Nat}{o:Obj}(hr:w0.heap[r]?=some o)(hn:r ∉ F)(hS:ar F w0 F' w1):w1.heap[r]?=some o/\r ∉ F'/\r<w1.heap.size:=by
 have hl:=(Array.getElem?_eq_some_iff.1 hr).1;refine⟨?_,?_,?_⟩
 .rw[hS.block _ hl hn];exact hr
 .intro hm;rcases hS.foot _ hm with h|h
  .exact hn h
  .omega
 .have:=hS.size;omega
theorem kP{r:Nat}{a b:Value}{T:TypeId}(h:w.heap[r]?=some (.cells #[a,b] T (0,0))):(w.cell? ⟨r,0,none⟩=some a/\w.cell? ⟨r,1,none⟩=some b)/\w.frozen? ⟨r,0,none⟩=false/\w.frozen? ⟨r,1,none⟩=false:=by
 refine⟨⟨?_,?_⟩,?_,?_⟩ <;> simp[World.cell?,World.frozen?,h]
theorem fh.alloc(h:fh B WV w P ws s F)(o:Obj):fh B WV (w.alloc o) P ws s F:=⟨h.m.alloc o,h.f⟩
theorem fh.setOther(h:fh B WV w P ws s F){p:Addr}(hp:p.block ∉ F)(u:Value):fh B WV (w.setCell p u) P ws s F:=⟨h.m.setOther hp u,h.f⟩
theorem iw(h:fh B WV w P ws s F):
  Calls prog 213 #[.pointer (some ⟨P,0,none⟩)] w λe w'=>e=.returned (.agg #[.int .i64 (dS ws s),.int .i64 (fe ws s)])/\∃F',fh B WV w' P ws (b9 ws s) F'/\ar F w F' w':=by
 have HQ:=ab h;have HA:=λo=>ab (aA kt (by decide) (h.alloc o));clear h;cases hb:bK ws kt s with
 |true =>
  have HK:Hid (dS ws s=0):=ab (if_pos hb);have HI:Hid (fe ws s=0):=ab (if_pos hb);have HS:Hid (b9 ws s=lV ws kt s):=ab (by unfold b9 lV;rw[if_pos hb,if_pos hb]);simp only[hb]at HA;clear hb;go_enter func213,ntmps213;go_wp2_with (go_at_call 158;refine(uh (HA _)).mono ?_;rintro e w' ⟨rfl,hI,hS⟩;obtain⟨hb,hn,hl⟩:=bG (uh HQ).m hS;obtain⟨⟨d0,d1⟩,e0,e1⟩:=kP hb;have eo:=ab hI;have dg:=ab hS;clear hI hS hb)
  refine bodyPost_ret (v:=.agg #[.int .i64 0,.int .i64 0]) (by simp[results,Tryz.results213,go_sem,d0,d1]) rfl ⟨by rw[uh HK,uh HI];rfl,F,?_,?_⟩
  .rw[uh HS];exact((uh eo).setOther hn _).setOther hn _
  .exact((((ar.refl F w).alloc _).trans (uh dg)).setCell (zq1 (zq4 _)) _).setCell (zq1 (zq4 _)) _
 |false =>
  have HK:Hid (dS ws s=1):=ab (if_neg (by simp[hb]));have HI:Hid (fe ws s=mN ws s):=ab (if_neg (by simp[hb]));have HS:Hid (b9 ws s=bD ws s):=ab (if_neg (by simp[hb]));have sP:Hid (lV ws kt s=s):=ab (if_neg (by simp[hb]));simp only[hb]at HA;clear hb;go_enter func213,ntmps213;go_wp2_with (go_at_call 158;refine(uh (HA _)).mono ?_;rintro e w' ⟨rfl,hI,hS⟩;obtain⟨hb,hn,hl⟩:=bG (uh HQ).m hS;rw[uh sP]at hI;have eo:=ab hI;have dg:=ab hS;have HB:=ab hb;clear hI hS hb)
  refine(fB (uh eo)).mono ?_;rintro e w2 ⟨rfl,F',fS,cR⟩;obtain⟨dx,vV,Pp⟩:=az (uh HB) hn cR;obtain⟨⟨d0,d1⟩,e0,e1⟩:=kP dx;have iY:=ab fS;have iT:=ab cR;clear fS cR dx;go_wp2_with fail
  refine bodyPost_ret (v:=.agg #[.int .i64 1,.int .i64 (mN ws s)]) (by simp[results,Tryz.results213,go_sem,d0,d1]) rfl ⟨by rw[uh HK,uh HI];rfl,F',?_,?_⟩
  .rw[uh HS];exact((uh iY).setOther vV _).setOther vV _
  .exact(((((ar.refl F w).alloc _).trans (uh dg)).trans (uh iT)).setCell (zq1 (zq4 _)) _).setCell (zq1 (zq4 _)) _
end
def tT(ws:List ByteArray)(s:PS):Nat:=if k8 (pk ws s) then 2 else dS ws s
def tS(ws:List ByteArray)(s:PS):Nat:=if k8 (pk ws s) then plc s.hid (Cm (pk ws s)) else fe ws s
def fJ(ws:List ByteArray)(s:PS):PS:=if k8 (pk ws s) then { s with pos:=s.pos+1,hid:=put s.hid (Cm (pk ws s)) } else b9 ws s
theorem RK{u:ByteArray}(h:k8 u=true):u.size=1:=by
 by_cases hs:u.size=1
 .exact hs
 .rw[JU u hs]at h;cases h
section
variable {B:Nat} {WV:Value} {w:World} {P:Nat} {ws:List ByteArray} {s:PS} {F:List Nat} {wv vv hv nv:Value}
theorem Ei.te(h:Ei ws s)(hp:s.pos<ws.length)(c:UInt8):Ei ws { s with pos:=s.pos+1,hid:=put s.hid c }:=by
 obtain⟨a,b,d,e⟩:=h;have:=QR s.hid c;simp only[Ei];omega
theorem ru(h:fh B WV w P ws s F):
  Calls prog 184 #[.pointer (some ⟨P,0,none⟩)] w λe w'=>e=.returned (.agg #[.int .i64 (tT ws s),.int .i64 (tS ws s)])/\∃F',fh B WV w' P ws (fJ ws s) F'/\ar F w F' w':=by
 obtain⟨i0,hi,gX,gy,gK⟩:=info_parts infoByte;have HQ:=ab h;obtain⟨w0,mA⟩:∃w0,w0=w.alloc (.cells #[.int .i64 0,.int .i64 0] 184):=⟨_,rfl⟩;have h0:fh B WV w0 P ws s F:=by rw[mA];exact h.alloc _
 have Yx:Hid (ar F w F w0):=ab (by rw[mA];exact(ar.refl F w).alloc _);have J0:Hid (w0.heap[w.heap.size]?=some (.cells #[.int .i64 0,.int .i64 0] 184 (0,0))):=ab (by rw[mA];exact heap_alloc_new w _);have HN0:Hid (w.heap.size ∉ F):=ab (λhm=>by have:=(h.m.mem _ hm).2;omega);have YD:=ab mA;clear mA;have HQ0:=ab h0;have HK:=ab (lC h0);obtain⟨wv,vv,hv,nv,ew⟩:=h0.m.named;obtain⟨hl,hp,Gc,hhl⟩:=h.f;clear h h0;obtain⟨u,hu⟩:∃u,u=pk ws s:=⟨_,rfl⟩;have HU:=ab hu;rw[<-hu]at HK;clear hu;cases iE:k8 u with
 |false =>
  have HIK:Hid (tT ws s=dS ws s):=ab (by unfold tT;rw[<-uh HU,iE];rfl);have HII:Hid (tS ws s=fe ws s):=ab (by unfold tS;rw[<-uh HU,iE];rfl);have HS:Hid (fJ ws s=b9 ws s):=ab (by unfold fJ;rw[<-uh HU,iE];rfl);clear ew;go_enter func184,ntmps184;go_wp2_with (first|(rw[<-uh YD];go_at_call 160;refine(uh HK).mono ?_;rintro e w' ⟨rfl,n,rfl⟩)|(go_at_call 211;refine(qR u _).mono ?_;rintro e w' ⟨rfl,rfl⟩))
  refine(iw (w:=w0.drewN n) ⟨(uh HQ0).m.drewN n,(uh HQ0).f⟩).mono ?_;rintro e w2 ⟨rfl,F',fS,cR⟩;obtain⟨dx,vV,Pp⟩:=az (w0:=w0.drewN n) (uh J0) (uh HN0) cR;obtain⟨⟨d0,d1⟩,e0,e1⟩:=kP dx;have iY:=ab fS;have iT:=ab cR;clear fS cR dx;go_wp2_with fail
  refine bodyPost_ret (v:=.agg #[.int .i64 (dS ws s),.int .i64 (fe ws s)]) (by simp[results,Tryz.results184,go_sem,d0,d1]) rfl ⟨by rw[uh HIK,uh HII],F',?_,?_⟩
  .rw[uh HS];exact((uh iY).setOther vV _).setOther vV _
  .exact((((uh Yx).drewN n).trans (uh iT)).setCell (zq1 (zq4 _)) _).setCell (zq1 (zq4 _)) _
 |true =>
  have hus:0<u.size:=by rw[RK iE];omega
  have HIK:Hid (tT ws s=2):=ab (by unfold tT;rw[<-uh HU,iE,if_pos rfl]);have HI:Hid (tS ws s=plc s.hid u[0]):=ab (by unfold tS;rw[<-uh HU,iE,if_pos rfl,AC hus]);have HS:Hid (fJ ws s={ s with pos:=s.pos+1,hid:=put s.hid u[0] }):=ab (by unfold fJ;rw[<-uh HU,iE,if_pos rfl,AC hus]);have au:s.pos<ws.length:=(zA (by rw[<-uh HU];omega)).2;have aas:=wO s.hid u[0];obtain⟨j,hj⟩:∃j,j=plc s.hid u[0]:=⟨_,rfl⟩;have HJ:=ab hj;rw[<-hj]at aas;clear hj;obtain⟨ao,cap,rfl,hm,_⟩:=lX ew.2.2.2.2.1;obtain⟨c1,c2,c3,c4,c5,fz⟩:=ew.readsV;have f1:=fz 1;have x8:=ab ew;clear fz c2 c3 c4 c5 ew;go_enter func184,ntmps184;go_wp2_with (first|(rw[<-uh YD];go_at_call 160;refine(uh HK).mono ?_;rintro e w' ⟨rfl,n,rfl⟩)|(go_at_call 211;refine(qR u _).mono ?_;rintro e w' ⟨rfl,rfl⟩))
  have sm:=((uh x8).drewN n).setPos (s.pos+1);have oW:ar F w0 F ((w0.drewN n).setCell ⟨P,1,none⟩ (.int .i64 ((s.pos:Int)+1))):=((ar.refl F w0).drewN n).setCell (zq0 (uh HQ).m.memP) _;rw[show(((s.pos+1:Nat)):Int)=(s.pos:Int)+1 by omega]at sm;generalize (w0.drewN n).setCell ⟨P,1,none⟩ (.int .i64 ((s.pos:Int)+1))=w1 at sm oW ⊢;clear c1 f1;obtain⟨bz,kq,EE⟩:=az (uh J0) (uh HN0) oW;have f8:=ab bz;clear bz;obtain⟨_,_,_,c4,_,fz⟩:=sm.readsV;have f4:=fz 4;have bp:=sm.2.2.2.2.1;have HR:=ab bp;have yG:=ab sm;have dh:=ab oW;clear fz sm oW bp;have zh:P<w1.heap.size:=((uh yG).is.mem P (uh yG).is.memP).2;have Ug:B<=w1.heap.size:=by have:=((uh yG).is.mem P (uh yG).is.memP).1;omega
  have Eo:Hid ((Value.slice ao s.hid.length cap).ownBlock≠some P):=ab (λe=>(uh yG).apart.1 P (by simp[e]) rfl);by_cases fT:j=s.hid.length
  .have hjt:((j:Int)==(s.hid.length:Int))=true:=(by simp[fT]);have Yr:=ab fT;clear fT;have c4a:∀(k:Nat) (o:Obj),((w1.drewN k).alloc o).cell? ⟨P,4,none⟩=some (.slice ao s.hid.length cap):=λk o=>(cell?_of_block (a:=⟨P,4,none⟩) (heap_alloc (w1.drewN k) o P zh)).trans c4;go_quiet ((go_at_call 212;exact kL (uh HJ) (uh HR) (by omega)))
   go_wp2_with fail
   go_region_law (refine jy _ rfl (.tmp 34) (.tmp 37) 101 rfl B 5 i0 (.int .u8 0) 1 1 underlying101 hi gX gy gK rfl (by decide) (.slice ao s.hid.length cap) s.hid.length (bc s.hid) (by simp[Act.eval]) (sE (uh HR) _ _) ⟨w1.heap.size,0,none⟩ 1 [.int .u8 (u[0].toNat:Int)] (by simp[Act.eval]) rfl (Qw _ _ _ _) (wI _) (by omega) (by omega) (zs Ug _ _) ?_;intro g2 cap2 w2 br aM dW;have c4':=iq aM zh (uh Eo) 4 c4;have f4':=fs aM zh (uh Eo) 4 f4;obtain⟨F',ZG,ZS⟩:=dH.pushHid u[0] ((uh yG).drewN _) aM br dW;have xI:=ab ZG;have HS':=ab ZS;clear br aM dW ZG ZS)
   all_goals
    obtain⟨dx,vV,Pp⟩:=az (w0:=w1.drewN _) (uh f8) kq (uh HS');generalize IK:World.setCell _ (⟨P,4,none⟩:Addr) _=w3 at xI HS' dx Pp ⊢;obtain⟨⟨d0,d1⟩,e0,e1⟩:=kP dx;clear dx IK;go_wp2_with fail
    refine bodyPost_ret (v:=.agg #[.int .i64 2,.int .i64 j]) (by simp[results,Tryz.results184,go_sem,d0,d1]) rfl ⟨by rw[uh HIK,uh HI,<-uh HJ];rfl,F',⟨?_,?_⟩,?_⟩
    .rw[uh HS];unfold put;rw[if_pos (by rw[<-uh HJ];exact uh Yr)];exact((uh xI).setOther vV _).setOther vV _
    .rw[uh HS];exact(uh HQ).f.te au _
    .exact((((uh Yx).trans ((uh dh).drewN _)).trans (uh HS')).setCell (zq1 (zq4 _)) _).setCell (zq1 (zq4 _)) _
  .have hjt:((j:Int)==(s.hid.length:Int))=false:=(by simp;omega);have Yr:=ab fT;clear fT;obtain⟨⟨d0,d1⟩,e0,e1⟩:=kP (uh f8);go_quiet ((go_at_call 212;exact kL (uh HJ) (uh HR) (by omega)))
   go_wp2_with fail
   refine bodyPost_ret (v:=.agg #[.int .i64 2,.int .i64 j]) (by simp[results,Tryz.results184,go_sem,d0,d1]) rfl ⟨by rw[uh HIK,uh HI,<-uh HJ];rfl,F,⟨?_,?_⟩,?_⟩
   .rw[uh HS];unfold put;rw[if_neg (by rw[<-uh HJ];exact uh Yr)];exact(((uh yG).is.drewN _).setOther kq _).setOther kq _
   .rw[uh HS];exact(uh HQ).f.te au _
   .exact((((uh Yx).trans (uh dh)).drewN _).setCell (zq1 (zq4 _)) _).setCell (zq1 (zq4 _)) _
end
def gT:ByteArray:=⟨#[61]⟩
def tr:ByteArray:=⟨#[33,61]⟩
def XP:ByteArray:=⟨#[45,62]⟩
def gj:ByteArray:=⟨#[40]⟩
def ni:ByteArray:=⟨#[44]⟩
def iU:ByteArray:=⟨#[41]⟩
def pV:ByteArray:=⟨#[101,109,112]⟩
def IS:ByteArray:=⟨#[108,115]⟩
def dD:ByteArray:=⟨#[42]⟩
def j6(ws:List ByteArray)(s:PS):Nat:=if bK ws gT s then 1 else if bK ws tr s then 2 else 3
def fA(ws:List ByteArray)(s:PS):PS:=if bK ws gT s then s.adv else if bK ws tr s then s.adv else aF ws XP s
structure ci where
 k:Nat
 lk:Nat
 li:Nat
 rk:Nat
 ri:Nat
def ci.cells(a:ci):List Value:=[.int .i64 a.k,.int .i64 a.lk,.int .i64 a.li,.int .i64 a.rk,.int .i64 a.ri]
section
variable {B:Nat} {WV:Value} {w:World} {P:Nat} {ws:List ByteArray} {s:PS} {F:List Nat} {wv vv hv nv:Value}
theorem BN(h:fh B WV w P ws s F):
  Calls prog 185 #[.pointer (some ⟨P,0,none⟩)] w λe w'=>e=.returned (.int .i64 (j6 ws s))/\fh B WV w' P ws (fA ws s) F/\ar F w F w':=by
 have HQ:=ab h;have HA:=ab (aA gT (by decide) h);clear h;cases hb:bK ws gT s with
 |true =>
  have HK:Hid (j6 ws s=1):=ab (if_pos hb);have HS:Hid (fA ws s=lV ws gT s):=ab (by unfold fA lV;rw[if_pos hb,if_pos hb]);simp only[hb]at HA;clear hb;go_enter func185,ntmps185;go_wp2_with (go_at_call 158;refine(uh HA).mono ?_;rintro e w' ⟨rfl,hI,hS⟩)
  go_ret;exact⟨bi (by rw[uh HK];rfl),by rw[uh HS];exact hI,hS⟩
 |false =>
  have sP:Hid (lV ws gT s=s):=ab (if_neg (by simp[hb]));simp only[hb]at HA;cases aW:bK ws tr s with
  |true =>
   have HK:Hid (j6 ws s=2):=ab (by unfold j6;rw[hb,aW];rfl);have HS:Hid (fA ws s=lV ws tr s):=ab (by unfold fA lV;rw[hb,aW];rfl);have eO:=ab aW;clear hb aW;go_enter func185,ntmps185;go_wp2_with fail
   refine(uh HA).mono ?_;rintro e w1 ⟨rfl,hI,hS⟩;rw[uh sP]at hI;have lM:=aA tr (by decide) hI;rw[uh eO]at lM;have lM:=ab lM;clear hI;have cH:=ab hS;clear hS;go_wp2_with fail
   refine(uh lM).mono ?_;rintro e w2 ⟨rfl,cd,bY⟩;go_wp2_with fail
   go_ret;exact⟨bi (by rw[uh HK];rfl),by rw[uh HS];exact cd,(uh cH).trans bY⟩
  |false =>
   have HK:Hid (j6 ws s=3):=ab (by unfold j6;rw[hb,aW];rfl);have HS:Hid (fA ws s=aF ws XP s):=ab (by unfold fA;rw[hb,aW];rfl);have MR:Hid (lV ws tr s=s):=ab (if_neg (by simp[aW]));have eO:=ab aW;clear hb aW;go_enter func185,ntmps185;go_wp2_with fail
   refine(uh HA).mono ?_;rintro e w1 ⟨rfl,hI,hS⟩;rw[uh sP]at hI;have lM:=aA tr (by decide) hI;rw[uh eO,uh MR]at lM;have lM:=ab lM;clear hI;have cH:=ab hS;clear hS;go_wp2_with fail
   refine(uh lM).mono ?_;rintro e w2 ⟨rfl,cd,bY⟩;have HE:=ab (aZ XP (by decide) cd);clear cd;go_wp2_with fail
   refine(uh HE).mono ?_;rintro e w3 ⟨rfl,fS,cR⟩;go_wp2_with fail
   go_ret;exact⟨bi (by rw[uh HK];rfl),by rw[uh HS];exact fS,((uh cH).trans bY).trans cR⟩
theorem Af{r:Nat}{a b c d e:Value}{T:TypeId}(h:w.heap[r]?=some (.cells #[a,b,c,d,e] T (0,0))):
  (w.cell? ⟨r,0,none⟩=some a/\w.cell? ⟨r,1,none⟩=some b/\w.cell? ⟨r,2,none⟩=some c/\w.cell? ⟨r,3,none⟩=some d/\w.cell? ⟨r,4,none⟩=some e) /\
  w.frozen? ⟨r,0,none⟩=false/\w.frozen? ⟨r,1,none⟩=false/\w.frozen? ⟨r,2,none⟩=false/\w.frozen? ⟨r,3,none⟩=false/\w.frozen? ⟨r,4,none⟩=false:=by
 refine⟨⟨?_,?_,?_,?_,?_⟩,?_,?_,?_,?_,?_⟩ <;> simp[World.cell?,World.frozen?,h]
def qZ(ws:List ByteArray)(s:PS):PS:=aF ws gj s
def pY(ws:List ByteArray)(s:PS):PS:=aF ws ni (fJ ws (qZ ws s))
def Be(ws:List ByteArray)(s:PS):PS:=aF ws iU (fJ ws (pY ws s))
def XR(ws:List ByteArray)(s:PS):ci:=⟨4,tT ws (qZ ws s),tS ws (qZ ws s),tT ws (pY ws s),tS ws (pY ws s)⟩
theorem P5(h:fh B WV w P ws s F):
  Calls prog 183 #[.pointer (some ⟨P,0,none⟩)] w λe w'=>e=.returned (.agg (XR ws s).cells.toArray)/\∃F',fh B WV w' P ws (Be ws s) F'/\ar F w F' w':=by
 have HQ:=ab h;have HA:=λo=>ab (aZ gj (by decide) (h.alloc o));clear h;go_enter func183,ntmps183;go_wp2_with fail
 refine(uh (HA _)).mono ?_;rintro e w1 ⟨rfl,dV,bT⟩;obtain⟨bz,kq,EE⟩:=bG (uh HQ).m bT;have f8:=ab bz;have fG:=ab dV;have cH:=ab (((ar.refl F w).alloc _).trans bT);clear bz dV bT;go_wp2_with fail
 refine(ru (uh fG)).mono ?_;rintro e w2 ⟨rfl,F2,cd,bY⟩;obtain⟨aW,xS,ym⟩:=az (uh f8) kq bY;have eO:=ab aW;have eo:=ab cd;have dg:=ab ((uh cH).trans bY);clear aW cd bY;go_wp2_with fail
 refine(aZ ni (by decide) ((uh eo).alloc _)).mono ?_;rintro e w3 ⟨rfl,fS,cR⟩;obtain⟨dx,vV,Pp⟩:=az (uh eO) xS (((ar.refl F2 w2).alloc _).trans cR);obtain⟨hc3,Di,Dg⟩:=bG (uh eo).m cR;have tA:=ab dx;have HC3:=ab hc3;have iY:=ab fS;have iT:=ab ((uh dg).trans (((ar.refl F2 w2).alloc _).trans cR));clear dx hc3 fS cR;go_wp2_with fail
 refine(ru (uh iY)).mono ?_;rintro e w4 ⟨rfl,F4,mw,fD⟩;obtain⟨nU,Pw,hl4⟩:=az (uh tA) vV fD;obtain⟨Xp,EG,xR⟩:=az (uh HC3) Di fD;have zT:=ab nU;have HC4:=ab Xp;have oM:=ab mw;have mE:=ab ((uh iT).trans fD);clear nU Xp mw fD;go_wp2_with fail
 refine(aZ iU (by decide) ((uh oM).alloc _)).mono ?_;rintro e w5 ⟨rfl,sd,gg⟩;have Us:=((ar.refl F4 w4).alloc _).trans gg;obtain⟨et,Dj,Xz⟩:=az (uh zT) Pw Us;obtain⟨hc5,hm5,FP⟩:=az (uh HC4) EG Us;obtain⟨hd5,ho5,hp5⟩:=bG (uh oM).m gg;obtain⟨⟨a0,a1,a2,a3,a4⟩,g0,g1,g2,g3,g4⟩:=Af et;obtain⟨⟨d0,d1⟩,e0,e1⟩:=kP hc5;obtain⟨⟨x0,x1⟩,y0,y1⟩:=kP hd5;have G9:=ab sd;have tB:=ab ((uh mE).trans Us);clear et hc5 hd5 sd gg Us;go_wp2_with fail
 refine bodyPost_ret (v:=.agg (XR ws s).cells.toArray) (by simp[results,Tryz.results183,go_sem,a0,a1,a2,a3,a4,XR,ci.cells,qZ,pY]) rfl ⟨rfl,F4,?_,?_⟩
 .exact(((((uh G9).setOther Dj _).setOther Dj _).setOther Dj _).setOther Dj _).setOther Dj _
 .exact(((((uh tB).setCell (zq1 (zq4 _)) _).setCell (zq1 (zq4 _)) _).setCell (zq1 (zq4 _)) _).setCell (zq1 (zq4 _)) _).setCell (zq1 (zq4 _)) _
end
def eI(ws:List ByteArray)(s:PS):PS:=if bK ws pV s then s.adv else if bK ws IS s then Be ws s.adv else fJ ws (fA ws (fJ ws s))
def qw(ws:List ByteArray)(s:PS):ci :=
 if bK ws pV s then ⟨0,0,0,0,0⟩ else if bK ws IS s then XR ws s.adv else ⟨j6 ws (fJ ws s),tT ws s,tS ws s,tT ws (fA ws (fJ ws s)),tS ws (fA ws (fJ ws s))⟩
def bN(l:List ci):List Value:=l.flatMap ci.cells
def jj(ws:List ByteArray):Nat->PS->List ci × PS
 |0,s=>([],s)
 |n+1,s=>if bK ws dD s then (qw ws s.adv::(jj ws n (eI ws s.adv)).1,(jj ws n (eI ws s.adv)).2) else ([],s)
def foA(ws:List ByteArray)(s:PS):List ci:=qw ws s::(jj ws (ws.length+1) (eI ws s)).1
def rG(ws:List ByteArray)(s:PS):PS:=(jj ws (ws.length+1) (eI ws s)).2
section
variable {ws:List ByteArray} {s:PS}
theorem di:s.pos<=s.adv.pos:=Nat.le_succ _
theorem cn(k:ByteArray):s.pos<=(aF ws k s).pos:=by unfold aF;split;exact di;exact zq4 _
theorem rA:s.pos<=(bD ws s).pos:=by unfold bD;split;exact Nat.le_succ _;exact zq4 _
theorem iR:s.pos<=(b9 ws s).pos:=by unfold b9;split;exact di;exact rA
theorem uM:s.pos<=(fJ ws s).pos:=by unfold fJ;split;exact Nat.le_succ _;exact iR
theorem Q4:s.pos<=(fA ws s).pos:=by unfold fA;split;exact di;split;exact di;exact cn _
theorem Vf:s.pos<=(Be ws s).pos:=by
 unfold Be pY qZ;exact zq3 (zq3 (zq3 (zq3 (cn _) uM) (cn _)) uM) (cn _)
theorem Tv:s.pos<=(eI ws s).pos:=by
 unfold eI;split
 .exact di
 .split
  .exact zq3 di Vf
  .exact zq3 (zq3 uM Q4) uM
end
section
variable {B:Nat} {WV:Value} {w:World} {P:Nat} {ws:List ByteArray} {s:PS} {F:List Nat} {wv vv hv nv:Value}
theorem CH(h:fh B WV w P ws s F):
  Calls prog 159 #[.pointer (some ⟨P,0,none⟩)] w λe w'=>e=.returned (.agg (qw ws s).cells.toArray)/\∃F',fh B WV w' P ws (eI ws s) F'/\ar F w F' w':=by
 have HQ:=ab h;have HA:=λo=>ab (aA pV (by decide) (h.alloc o));clear h;cases hb:bK ws pV s with
 |true =>
  have HK:Hid (qw ws s=⟨0,0,0,0,0⟩):=ab (if_pos hb);have HS:Hid (eI ws s=lV ws pV s):=ab (by unfold eI lV;rw[if_pos hb,if_pos hb]);simp only[hb]at HA;clear hb;go_enter func159,ntmps159;go_wp2_with fail
  refine(uh (HA _)).mono ?_;rintro e w1 ⟨rfl,dV,bT⟩;obtain⟨bz,kq,EE⟩:=bG (uh HQ).m bT;obtain⟨⟨a0,a1,a2,a3,a4⟩,g0,g1,g2,g3,g4⟩:=Af bz;have fG:=ab dV;have cH:=ab (((ar.refl F w).alloc _).trans bT);clear bz dV bT;go_wp2_with fail
  refine bodyPost_ret (v:=.agg #[.int .i64 0,.int .i64 0,.int .i64 0,.int .i64 0,.int .i64 0]) (by simp[results,Tryz.results159,go_sem,a0,a1,a2,a3,a4]) rfl ⟨by rw[uh HK];rfl,F,?_,?_⟩
  .rw[uh HS];exact(((((uh fG).setOther kq _).setOther kq _).setOther kq _).setOther kq _).setOther kq _
  .exact(((((uh cH).setCell (zq1 (zq4 _)) _).setCell (zq1 (zq4 _)) _).setCell (zq1 (zq4 _)) _).setCell (zq1 (zq4 _)) _).setCell (zq1 (zq4 _)) _
 |false =>
  have sP:Hid (lV ws pV s=s):=ab (if_neg (by simp[hb]));simp only[hb]at HA;cases aW:bK ws IS s with
  |true =>
   have HK:Hid (qw ws s=XR ws s.adv):=ab (by unfold qw;rw[hb,aW];rfl);have HS:Hid (eI ws s=Be ws s.adv):=ab (by unfold eI;rw[hb,aW];rfl);have MR:Hid (lV ws IS s=s.adv):=ab (if_pos aW);have eO:=ab aW;clear hb aW;go_enter func159,ntmps159;go_wp2_with fail
   refine(uh (HA _)).mono ?_;rintro e w1 ⟨rfl,dV,bT⟩;obtain⟨bz,kq,EE⟩:=bG (uh HQ).m bT;rw[uh sP]at dV;have f8:=ab bz;have cH:=ab (((ar.refl F w).alloc _).trans bT);have lM:=aA IS (by decide) dV;rw[uh eO,uh MR]at lM;replace lM:=ab lM
   clear bz dV bT;go_wp2_with fail
   refine(uh lM).mono ?_;rintro e w2 ⟨rfl,cd,bY⟩;obtain⟨aW,xS,ym⟩:=az (uh f8) kq bY;have eO:=ab aW;have eo:=ab cd;have dg:=ab ((uh cH).trans bY);clear aW cd bY;go_wp2_with fail
   refine(P5 (uh eo)).mono ?_;rintro e w3 ⟨rfl,F3,fS,cR⟩;obtain⟨dx,vV,Pp⟩:=az (uh eO) xS cR;obtain⟨⟨a0,a1,a2,a3,a4⟩,g0,g1,g2,g3,g4⟩:=Af dx;have iY:=ab fS;have iT:=ab ((uh dg).trans cR);clear dx fS cR;obtain⟨k0,k1,k2,k3,k4,hat⟩:∃k0 k1 k2 k3 k4,XR ws s.adv=⟨k0,k1,k2,k3,k4⟩:=⟨_,_,_,_,_,rfl⟩;rw[hat]at HK ⊢;clear hat;simp only[ci.cells];go_wp2_with fail
   refine bodyPost_ret (v:=.agg #[.int .i64 k0,.int .i64 k1,.int .i64 k2,.int .i64 k3,.int .i64 k4]) (by simp[results,Tryz.results159,go_sem,a0,a1,a2,a3,a4]) rfl ⟨by rw[uh HK];rfl,F3,?_,?_⟩
   .rw[uh HS];exact(((((uh iY).setOther vV _).setOther vV _).setOther vV _).setOther vV _).setOther vV _
   .exact(((((uh iT).setCell (zq1 (zq4 _)) _).setCell (zq1 (zq4 _)) _).setCell (zq1 (zq4 _)) _).setCell (zq1 (zq4 _)) _).setCell (zq1 (zq4 _)) _
  |false =>
   have HK:Hid (qw ws s=⟨j6 ws (fJ ws s),tT ws s,tS ws s,tT ws (fA ws (fJ ws s)),tS ws (fA ws (fJ ws s))⟩):=ab (by unfold qw;rw[hb,aW];rfl);have HS:Hid (eI ws s=fJ ws (fA ws (fJ ws s))):=ab (by unfold eI;rw[hb,aW];rfl);have MR:Hid (lV ws IS s=s):=ab (if_neg (by simp[aW]));have eO:=ab aW;clear hb aW;go_enter func159,ntmps159;go_wp2_with fail
   refine(uh (HA _)).mono ?_;rintro e w1 ⟨rfl,dV,bT⟩;obtain⟨bz,kq,EE⟩:=bG (uh HQ).m bT;rw[uh sP]at dV;have f8:=ab bz;have cH:=ab (((ar.refl F w).alloc _).trans bT);have lM:=aA IS (by decide) dV;rw[uh eO,uh MR]at lM;replace lM:=ab lM
   clear bz dV bT;go_wp2_with fail
   refine(uh lM).mono ?_;rintro e w2 ⟨rfl,cd,bY⟩;obtain⟨aW,xS,ym⟩:=az (uh f8) kq bY;have eO:=ab aW;have eo:=ab cd;have dg:=ab ((uh cH).trans bY);clear aW cd bY;go_wp2_with fail
   refine(ru (uh eo)).mono ?_;rintro e w3 ⟨rfl,F3,fS,cR⟩;obtain⟨dx,vV,Pp⟩:=az (uh eO) xS cR;have tA:=ab dx;have iY:=ab fS;have iT:=ab ((uh dg).trans cR);clear dx fS cR;go_wp2_with fail
   refine(BN ((uh iY).alloc _)).mono ?_;rintro e w4 ⟨rfl,mw,fD⟩;obtain⟨nU,Pw,hl4⟩:=az (uh tA) vV (((ar.refl F3 w3).alloc _).trans fD);obtain⟨Xp,EG,xR⟩:=bG (uh iY).m fD;have zT:=ab nU;have HC4:=ab Xp;have oM:=ab mw;have mE:=ab ((uh iT).trans (((ar.refl F3 w3).alloc _).trans fD));clear nU Xp mw fD;go_wp2_with fail
   refine(ru (uh oM)).mono ?_;rintro e w5 ⟨rfl,F5,sd,gg⟩;obtain⟨et,Dj,Xz⟩:=az (uh zT) Pw gg;obtain⟨hc5,hm5,FP⟩:=az (uh HC4) EG gg;obtain⟨⟨a0,a1,a2,a3,a4⟩,g0,g1,g2,g3,g4⟩:=Af et;obtain⟨⟨d0,d1⟩,e0,e1⟩:=kP hc5;have G9:=ab sd;have tB:=ab ((uh mE).trans gg);clear et hc5 sd gg;go_wp2_with fail
   refine bodyPost_ret (v:=.agg #[.int .i64 (j6 ws (fJ ws s)),.int .i64 (tT ws s),.int .i64 (tS ws s),.int .i64 (tT ws (fA ws (fJ ws s))),.int .i64 (tS ws (fA ws (fJ ws s)))]) (by simp[results,Tryz.results159,go_sem,cell?_alloc_past,Xz,a0,a1,a2,a3,a4]) rfl ⟨by rw[uh HK];rfl,F5,?_,?_⟩
   .rw[uh HS];exact((((((uh G9).setOther Dj _).setOther Dj _).setOther Dj _).setOther Dj _).setOther Dj _).alloc _
   .exact((((((uh tB).setCell (zq1 (zq4 _)) _).setCell (zq1 (zq4 _)) _).setCell (zq1 (zq4 _)) _).setCell (zq1 (zq4 _)) _).setCell (zq1 (zq4 _)) _).alloc _
end
structure Pr where
 k:Nat
 l:Nat
 r:Nat
def ay:Pr:=⟨0,0,0⟩
structure CF where
 cl:List Nat
 ap:List Pr
 ow:List Pr
def xt(k i:Nat):Nat:=if k=1 then 1+i else if k=2 then 5+i else 0
def oZ(c:List Nat)(a:ci):List Nat:=if a.k=1 then c.map (λx=>if x=c.getD (xt a.rk a.ri) 0 then c.getD (xt a.lk a.li) 0 else x) else c
def nz(al:List ci):List Nat:=al.foldl oZ (range 13)
def jm(c:List Nat)(a:ci):Pr:=⟨a.k,c.getD (xt a.lk a.li) 0,c.getD (xt a.rk a.ri) 0⟩
def bW(al:List ci):CF:=⟨(nz al).take 5,(al.filter (λa=>a.k==2)).map (jm (nz al)),(al.filter (λa=>a.k==3||a.k==4)).map (jm (nz al))⟩
def cD:List Pr->Nat->Option Nat
 |[],_=>none
 |p::r,c=>if p.l=c then some 0 else (cD r c).map (·+1)
def tG:List Nat->List Pr->Bool
 |_,[]=>false
 |seen,p::r=>if p.l∈seen then true else tG (p.l::seen) r
def gH(f:CF):Bool:=f.ap.any (λp=>p.l==p.r)||tG [f.cl.getD 0 0] f.ow
def mG(f:CF)(a b:Nat):Bool:=((cD f.ow a).isSome&&((cD f.ow b).isSome||b==f.cl.getD 0 0))||((cD f.ow b).isSome&&a==f.cl.getD 0 0)
def aV(f:CF)(a b:Nat):Bool:=if a=b then false else f.ap.any (λp=>(p.l==a&&p.r==b)||(p.l==b&&p.r==a))||mG f a b
structure SS where
 bd:List (Option Nat)
 ot:List (Option Nat)
 un:Nat
 pl:List Bool
 st:Int
def SS.b(s:SS)(c:Nat):Option Nat:=s.bd.getD c none
def L9(V T:CF)(s:SS):Bool:=T.ap.all (λp=>p.l != p.r&&(match s.b p.l,s.b p.r with|some a,some b=>aV V a b|_,_=>true))
def Sm(T:CF)(s:SS):List Nat->Option Nat->Option Nat
 |[],o=>o
 |k::r,o=>if s.pl.getD k false=true then Sm T s r o else if (s.b (T.ow.getD k ay).l).isSome=true then some k else Sm T s r (if o.isSome=true then o else some k)
def Y3(T:CF)(s:SS):Option Nat:=Sm T s (range s.pl.length) none
def Gx(W:SS->Nat->Nat->Nat->Bool × SS)(k left count:Nat):List Pr->SS->Bool × SS
 |[],s=>(false,{ s with bd:=s.bd.set left none })
 |p::r,s=>match W { s with bd:=s.bd.set left (some p.l) } k p.l count with
  |(true,s')=>(true,s')
  |(false,s')=>Gx W k left count r s'
def zC(W:SS->Nat->Nat->Nat->Bool × SS)(V T:CF)(s:SS)(count:Nat):Bool × SS :=
 if T.ow.length=count then (decide (s.un=0)&&L9 V T s,s)
 else if s.un<T.ow.length-count then (false,s)
 else match Y3 T s with
  |none=>(false,s)
  |some k=>match s.b (T.ow.getD k ay).l with
   |some at_=>W s k at_ count
   |none=>Gx W k (T.ow.getD k ay).l count V.ow s
def Fo(P:SS->Nat->Bool × SS)(T:CF)(s:SS)(k at_ count:Nat):Bool × SS :=
 if s.b (T.ow.getD k ay).r≠none/\s.b (T.ow.getD k ay).r≠some at_ then (false,s)
 else match P { s with bd:=s.bd.set (T.ow.getD k ay).r (some at_),pl:=s.pl.set k true } (count+1) with
  |(true,s')=>(true,s')
  |(false,s')=>(false,{ s' with pl:=s'.pl.set k false,bd:=s'.bd.set (T.ow.getD k ay).r (s.b (T.ow.getD k ay).r) })
def wk(V T:CF):Nat->SS->Nat->Nat->Nat->Bool × SS
 |0,s,_,_,_=>(false,s)
 |m+1,s,k,at_,count =>
  if wrap64 (s.st-1)<0 then (false,{ s with st:=wrap64 (s.st-1) })
  else match cD V.ow at_ with
   |none=>(false,{ s with st:=wrap64 (s.st-1) })
   |some i =>
    if s.ot.getD i none≠none then (false,{ s with st:=wrap64 (s.st-1) })
    else if (T.ow.getD k ay).k≠4/\(V.ow.getD i ay).k=4 then (false,{ s with st:=wrap64 (s.st-1) })
    else match Fo (zC (wk V T m) V T) T { s with st:=wrap64 (s.st-1),ot:=s.ot.set i (some k),un:=s.un-1 } k (V.ow.getD i ay).r count with
     |(true,s')=>(true,s')
     |(false,s2)=>match (if (T.ow.getD k ay).k=4 then wk V T m s2 k (V.ow.getD i ay).r count else (false,s2)) with
      |(true,s')=>(true,s')
      |(false,s3)=>(false,{ s3 with ot:=s3.ot.set i none,un:=s3.un+1 })
