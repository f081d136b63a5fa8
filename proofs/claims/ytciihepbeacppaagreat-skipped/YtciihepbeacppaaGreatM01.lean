import Derived.Test.YtciihepbeacppaaGreatM00
import Derived.Deep.LoopGhost
set_option maxRecDepth 100000
set_option maxHeartbeats 0
namespace Go.Proofs.YtciihepbeacppaaGreat
open Tryz Go.RowKit List World Below
set_option linter.unusedVariables false
def dI(B:Nat)(WV:Value)(w:World)(P:Nat)(ws:List ByteArray)(s:PS)(F:List Nat)(wv vv hv nv:Value):Prop :=
  w.heap[P]?=some (.cells #[wv,.int .i64 s.pos,.bool s.failed,vv,hv,nv] 133 (0,0))/\(B<=P/\wv=WV) /\
  w.ownsRow B 9 1 wv ws.length (ws.map Value.string) /\
  w.ownsRow B 5 1 vv s.vars.length (bc s.vars) /\
  w.ownsRow B 5 1 hv s.hid.length (bc s.hid) /\
  w.ownsRow B 186 6 nv s.nodes.length (bi s.nodes) /\
  F=P::(wv.ownBlock.toList++(vv.ownBlock.toList++(hv.ownBlock.toList++nv.ownBlock.toList)))/\F.Nodup
section
variable {B:Nat} {WV:Value} {w:World} {P:Nat} {ws:List ByteArray} {s:PS} {F:List Nat} {wv vv hv nv:Value}
theorem lU.named(h:lU B WV w P ws s F):∃wv vv hv nv,dI B WV w P ws s F wv vv hv nv:=h
theorem dI.is(h:dI B WV w P ws s F wv vv hv nv):lU B WV w P ws s F:=⟨wv,vv,hv,nv,h⟩
theorem dI.of_eq{w':World}(h:dI B WV w P ws s F wv vv hv nv)(he:∀k∈F,w'.heap[k]?=w.heap[k]?):dI B WV w' P ws s F wv vv hv nv:=by
 obtain⟨hP,hB,h1,h2,h3,h4,hF,hN⟩:=h;have hm:∀k,k=P\/wv.ownBlock=some k\/vv.ownBlock=some k\/hv.ownBlock=some k\/nv.ownBlock=some k->k∈F:=by
  intro k hk;rw[hF];simpa using hk
 exact⟨by rw[he P (hm P (by simp))];exact hP,hB,ae h1 (λk hk=>he k (hm k (by simp[hk]))),ae h2 (λk hk=>he k (hm k (by simp[hk]))),
  ae h3 (λk hk=>he k (hm k (by simp[hk]))),ae h4 (λk hk=>he k (hm k (by simp[hk]))),hF,hN⟩
theorem dI.drewN(h:dI B WV w P ws s F wv vv hv nv)(n:Nat):dI B WV (w.drewN n) P ws s F wv vv hv nv:=h.of_eq (λ_ _=>rfl)
theorem dI.alloc(h:dI B WV w P ws s F wv vv hv nv)(o:Obj):dI B WV (w.alloc o) P ws s F wv vv hv nv:=h.of_eq (λk hk=>heap_alloc _ _ _ (h.is.mem k hk).2)
theorem dI.setPos(h:dI B WV w P ws s F wv vv hv nv)(n:Nat):dI B WV (w.setCell ⟨P,1,none⟩ (.int .i64 n)) P ws { s with pos:=n } F wv vv hv nv:=by
 obtain⟨hP,hB,h1,h2,h3,h4,hF,hN⟩:=h;have aH:∀k,wv.ownBlock=some k\/vv.ownBlock=some k\/hv.ownBlock=some k\/nv.ownBlock=some k->k≠P:=by
  rw[hF]at hN;rintro k hk rfl;exact(nodup_cons.1 hN).1 (by simpa using hk)
 have hk:∀k,wv.ownBlock=some k\/vv.ownBlock=some k\/hv.ownBlock=some k\/nv.ownBlock=some k->(w.setCell ⟨P,1,none⟩ (.int .i64 n)).heap[k]?=w.heap[k]? :=
  λk hk=>heap_setCell _ _ _ _ (aH k hk)
 exact⟨yC hP _,hB,ae h1 (λk h=>hk k (by simp[h])),ae h2 (λk h=>hk k (by simp[h])),ae h3 (λk h=>hk k (by simp[h])),ae h4 (λk h=>hk k (by simp[h])),hF,hN⟩
theorem dI.apart(h:dI B WV w P ws s F wv vv hv nv):(∀k,wv.ownBlock=some k\/vv.ownBlock=some k\/hv.ownBlock=some k\/nv.ownBlock=some k->k≠P) /\
  (∀k,vv.ownBlock=some k->wv.ownBlock≠some k/\hv.ownBlock≠some k/\nv.ownBlock≠some k)/\(∀k,hv.ownBlock=some k->wv.ownBlock≠some k/\vv.ownBlock≠some k/\nv.ownBlock≠some k) /\
  (∀k,nv.ownBlock=some k->wv.ownBlock≠some k/\vv.ownBlock≠some k/\hv.ownBlock≠some k):=by
 obtain⟨hP,hB,h1,h2,h3,h4,hF,hN⟩:=h;rw[hF]at hN;cases a:wv.ownBlock <;> cases b:vv.ownBlock <;> cases c:hv.ownBlock <;> cases d:nv.ownBlock <;> simp[a,b,c,d]at hN ⊢ <;> grind
theorem Vt{P g:Nat}{a b c d:List Nat}(h:(P::(a++(b++(c++d)))).Nodup)(hg:g ∉ P::(a++(c++d))):(P::(a++([g]++(c++d)))).Nodup:=by
 simp only[nodup_cons,nodup_append,mem_append,mem_cons]at *;grind
theorem aa6{P g:Nat}{a b c d:List Nat}(h:(P::(a++(b++(c++d)))).Nodup)(hg:g ∉ P::(a++(b++d))):(P::(a++(b++([g]++d)))).Nodup:=by
 simp only[nodup_cons,nodup_append,mem_append,mem_cons]at *;grind
theorem Qr{P g:Nat}{a b c d:List Nat}(h:(P::(a++(b++(c++d)))).Nodup)(hg:g ∉ P::(a++(b++c))):(P::(a++(b++(c++[g])))).Nodup:=by
 simp only[nodup_cons,nodup_append,mem_append,mem_cons]at *;grind
theorem dI.pushVars {w3:World} {o:Obj} {g cap:Nat} (x:UInt8) (h:dI B WV w P ws s F wv vv hv nv) (hg:(w.alloc o).grownBy w3 vv.ownBlock)
  (aL:w3.ownsRow B 5 1 (.slice (some ⟨g,0,none⟩) (s.vars.length+1) cap) (s.vars.length+1) (bc s.vars++[.int .u8 (x.toNat:Int)]))
  (hb:some g=vv.ownBlock\/g=(w.alloc o).heap.size) :
  ∃F',lU B WV (w3.setCell ⟨P,3,none⟩ (.slice (some ⟨g,0,none⟩) (s.vars.length+1) cap)) P ws { s with vars:=s.vars++[x] } F'/\ar F w F' (w3.setCell ⟨P,3,none⟩ (.slice (some ⟨g,0,none⟩) (s.vars.length+1) cap)):=by
 have eK:=h.apart;have gX:=h.is.mem;have mP:(w.alloc o).heap.size=w.heap.size+1:=by simp
 obtain⟨hP,hB,h1,h2,h3,h4,hF,hN⟩:=h;have zl:P<w.heap.size:=(gX P (by rw[hF];simp)).2;have hgP:g≠P:=by
  rcases hb with hb|hb
  .exact eK.1 g (by simp[<-hb])
  .omega
 have ic:∀k,k<w.heap.size->vv.ownBlock≠some k->k≠P->(w3.setCell ⟨P,3,none⟩ (.slice (some ⟨g,0,none⟩) (s.vars.length+1) cap)).heap[k]?=w.heap[k]?:=by
  intro k hk aH hkP;rw[heap_setCell _ _ _ _ hkP,hg.block k (by omega) (λe=>aH e.symm),heap_alloc _ _ _ hk]
 have KG:w3.heap[P]?=some (.cells #[wv,.int .i64 s.pos,.bool s.failed,vv,hv,nv] 133 (0,0)):=by
  rw[hg.block P (by omega) (λe=>(eK.1 P (by simp[<-e])) rfl),heap_alloc _ _ _ zl];exact hP
 have au:∀k,wv.ownBlock=some k\/vv.ownBlock=some k\/hv.ownBlock=some k\/nv.ownBlock=some k->k<w.heap.size:=λk hk=>(gX k (by rw[hF];simpa using zq1 hk)).2;have hgF:g∈F\/g=w.heap.size+1:=by
  rcases hb with hb|hb
  .left;rw[hF];simp[<-hb]
  .right;omega
 refine⟨P::(wv.ownBlock.toList++([g]++(hv.ownBlock.toList++nv.ownBlock.toList))),⟨wv,.slice (some ⟨g,0,none⟩) (s.vars.length+1) cap,hv,nv,yC KG _,hB,?_,?_,?_,?_,rfl,?_⟩,⟨hg.os,hg.tape,hg.output,?_,?_,?_⟩⟩
 .exact ae h1 (λk hk=>ic k (au k (by simp[hk])) (λe=>by have:=eK;grind) (λe=>(eK.1 k (by simp[hk])) e))
 .exact ae (iR aL (by simp) (by simp[bc])) (λk hk=>heap_setCell _ _ _ _ (by simp[Value.ownBlock]at hk;subst hk;exact hgP))
 .exact ae h3 (λk hk=>ic k (au k (by simp[hk])) (λe=>by have:=eK;grind) (λe=>(eK.1 k (by simp[hk])) e))
 .exact ae h4 (λk hk=>ic k (au k (by simp[hk])) (λe=>by have:=eK;grind) (λe=>(eK.1 k (by simp[hk])) e))
 .rw[hF]at hN;rcases hb with hb|hb
  .have e:vv.ownBlock.toList=[g]:=(by rw[<-hb];rfl);rw[e]at hN;exact hN
  .refine Vt hN ?_;intro hm;have:=au g (by simpa using Or.resolve_left (mem_cons.1 hm) hgP |> λz=>(by grind));omega
 .have:=hg.size;simp[World.setCell];omega
 .intro k hk hkF;exact ic k hk (λe=>hkF (by rw[hF];simp[e])) (λe=>hkF (by rw[hF,e];simp))
 .intro k hk;rw[hF];rw[hF]at hgF;grind
theorem dI.pushHid {w3:World} {o:Obj} {g cap:Nat} (x:UInt8) (h:dI B WV w P ws s F wv vv hv nv) (hg:(w.alloc o).grownBy w3 hv.ownBlock)
  (aL:w3.ownsRow B 5 1 (.slice (some ⟨g,0,none⟩) (s.hid.length+1) cap) (s.hid.length+1) (bc s.hid++[.int .u8 (x.toNat:Int)]))
  (hb:some g=hv.ownBlock\/g=(w.alloc o).heap.size) :
  ∃F',lU B WV (w3.setCell ⟨P,4,none⟩ (.slice (some ⟨g,0,none⟩) (s.hid.length+1) cap)) P ws { s with hid:=s.hid++[x] } F'/\ar F w F' (w3.setCell ⟨P,4,none⟩ (.slice (some ⟨g,0,none⟩) (s.hid.length+1) cap)):=by
 have eK:=h.apart;have gX:=h.is.mem;have mP:(w.alloc o).heap.size=w.heap.size+1:=by simp
 obtain⟨hP,hB,h1,h2,h3,h4,hF,hN⟩:=h;have zl:P<w.heap.size:=(gX P (by rw[hF];simp)).2;have hgP:g≠P:=by
  rcases hb with hb|hb
  .exact eK.1 g (by simp[<-hb])
  .omega
 have ic:∀k,k<w.heap.size->hv.ownBlock≠some k->k≠P->(w3.setCell ⟨P,4,none⟩ (.slice (some ⟨g,0,none⟩) (s.hid.length+1) cap)).heap[k]?=w.heap[k]?:=by
  intro k hk aH hkP;rw[heap_setCell _ _ _ _ hkP,hg.block k (by omega) (λe=>aH e.symm),heap_alloc _ _ _ hk]
 have KG:w3.heap[P]?=some (.cells #[wv,.int .i64 s.pos,.bool s.failed,vv,hv,nv] 133 (0,0)):=by
  rw[hg.block P (by omega) (λe=>(eK.1 P (by simp[<-e])) rfl),heap_alloc _ _ _ zl];exact hP
 have au:∀k,wv.ownBlock=some k\/vv.ownBlock=some k\/hv.ownBlock=some k\/nv.ownBlock=some k->k<w.heap.size:=λk hk=>(gX k (by rw[hF];simpa using zq1 hk)).2;have hgF:g∈F\/g=w.heap.size+1:=by
  rcases hb with hb|hb
  .left;rw[hF];simp[<-hb]
  .right;omega
 refine⟨P::(wv.ownBlock.toList++(vv.ownBlock.toList++([g]++nv.ownBlock.toList))),⟨wv,vv,.slice (some ⟨g,0,none⟩) (s.hid.length+1) cap,nv,yC KG _,hB,?_,?_,?_,?_,rfl,?_⟩,⟨hg.os,hg.tape,hg.output,?_,?_,?_⟩⟩
 .exact ae h1 (λk hk=>ic k (au k (by simp[hk])) (λe=>by have:=eK;grind) (λe=>(eK.1 k (by simp[hk])) e))
 .exact ae h2 (λk hk=>ic k (au k (by simp[hk])) (λe=>by have:=eK;grind) (λe=>(eK.1 k (by simp[hk])) e))
 .exact ae (iR aL (by simp) (by simp[bc])) (λk hk=>heap_setCell _ _ _ _ (by simp[Value.ownBlock]at hk;subst hk;exact hgP))
 .exact ae h4 (λk hk=>ic k (au k (by simp[hk])) (λe=>by have:=eK;grind) (λe=>(eK.1 k (by simp[hk])) e))
 .rw[hF]at hN;rcases hb with hb|hb
  .have e:hv.ownBlock.toList=[g]:=(by rw[<-hb];rfl);rw[e]at hN;exact hN
  .refine aa6 hN ?_;intro hm;have:=au g (by simpa using Or.resolve_left (mem_cons.1 hm) hgP |> λz=>(by grind));omega
 .have:=hg.size;simp[World.setCell];omega
 .intro k hk hkF;exact ic k hk (λe=>hkF (by rw[hF];simp[e])) (λe=>hkF (by rw[hF,e];simp))
 .intro k hk;rw[hF];rw[hF]at hgF;grind
theorem dI.pushNodes {w3:World} {o:Obj} {g cap:Nat} (x:Nd) (h:dI B WV w P ws s F wv vv hv nv) (hg:(w.alloc o).grownBy w3 nv.ownBlock)
  (aL:w3.ownsRow B 186 6 (.slice (some ⟨g,0,none⟩) (s.nodes.length+1) cap) (s.nodes.length+1) (bi s.nodes++x.cells))
  (hb:some g=nv.ownBlock\/g=(w.alloc o).heap.size) :
  ∃F',lU B WV (w3.setCell ⟨P,5,none⟩ (.slice (some ⟨g,0,none⟩) (s.nodes.length+1) cap)) P ws { s with nodes:=s.nodes++[x] } F'/\ar F w F' (w3.setCell ⟨P,5,none⟩ (.slice (some ⟨g,0,none⟩) (s.nodes.length+1) cap)):=by
 have eK:=h.apart;have gX:=h.is.mem;have mP:(w.alloc o).heap.size=w.heap.size+1:=by simp
 obtain⟨hP,hB,h1,h2,h3,h4,hF,hN⟩:=h;have zl:P<w.heap.size:=(gX P (by rw[hF];simp)).2;have hgP:g≠P:=by
  rcases hb with hb|hb
  .exact eK.1 g (by simp[<-hb])
  .omega
 have ic:∀k,k<w.heap.size->nv.ownBlock≠some k->k≠P->(w3.setCell ⟨P,5,none⟩ (.slice (some ⟨g,0,none⟩) (s.nodes.length+1) cap)).heap[k]?=w.heap[k]?:=by
  intro k hk aH hkP;rw[heap_setCell _ _ _ _ hkP,hg.block k (by omega) (λe=>aH e.symm),heap_alloc _ _ _ hk]
 have KG:w3.heap[P]?=some (.cells #[wv,.int .i64 s.pos,.bool s.failed,vv,hv,nv] 133 (0,0)):=by
  rw[hg.block P (by omega) (λe=>(eK.1 P (by simp[<-e])) rfl),heap_alloc _ _ _ zl];exact hP
 have au:∀k,wv.ownBlock=some k\/vv.ownBlock=some k\/hv.ownBlock=some k\/nv.ownBlock=some k->k<w.heap.size:=λk hk=>(gX k (by rw[hF];simpa using zq1 hk)).2;have hgF:g∈F\/g=w.heap.size+1:=by
  rcases hb with hb|hb
  .left;rw[hF];simp[<-hb]
  .right;omega
 refine⟨P::(wv.ownBlock.toList++(vv.ownBlock.toList++(hv.ownBlock.toList++[g]))),⟨wv,vv,hv,.slice (some ⟨g,0,none⟩) (s.nodes.length+1) cap,yC KG _,hB,?_,?_,?_,?_,rfl,?_⟩,⟨hg.os,hg.tape,hg.output,?_,?_,?_⟩⟩
 .exact ae h1 (λk hk=>ic k (au k (by simp[hk])) (λe=>by have:=eK;grind) (λe=>(eK.1 k (by simp[hk])) e))
 .exact ae h2 (λk hk=>ic k (au k (by simp[hk])) (λe=>by have:=eK;grind) (λe=>(eK.1 k (by simp[hk])) e))
 .exact ae h3 (λk hk=>ic k (au k (by simp[hk])) (λe=>by have:=eK;grind) (λe=>(eK.1 k (by simp[hk])) e))
 .exact ae (iR aL (by simp) (by simp[bi])) (λk hk=>heap_setCell _ _ _ _ (by simp[Value.ownBlock]at hk;subst hk;exact hgP))
 .rw[hF]at hN;rcases hb with hb|hb
  .have e:nv.ownBlock.toList=[g]:=(by rw[<-hb];rfl);rw[e]at hN;exact hN
  .refine Qr hN ?_;intro hm;have:=au g (by simpa using Or.resolve_left (mem_cons.1 hm) hgP |> λz=>(by grind));omega
 .have:=hg.size;simp[World.setCell];omega
 .intro k hk hkF;exact ic k hk (λe=>hkF (by rw[hF];simp[e])) (λe=>hkF (by rw[hF,e];simp))
 .intro k hk;rw[hF];rw[hF]at hgF;grind
end
def Cq(u:ByteArray):UInt8:=u.data.toList.headD 0
def put(l:List UInt8)(c:UInt8):List UInt8:=if plc l c=l.length then l++[c] else l
def mO(ws:List ByteArray)(s:PS):Nat:=if aK (pk ws s) then plc s.vars (Cq (pk ws s)) else 0
def bE(ws:List ByteArray)(s:PS):PS:=if aK (pk ws s) then { s with pos:=s.pos+1,vars:=put s.vars (Cq (pk ws s)) } else s.fail
theorem AF{u:ByteArray}(h:0<u.size):Cq u=u[0]:=by
 obtain⟨⟨l⟩⟩:=u;match l,h with
 |c::r,_=>rfl
theorem Lm{u:ByteArray}(h:aK u=true):u.size=1:=by
 by_cases hs:u.size=1
 .exact hs
 .rw[q7 u hs]at h;cases h
theorem QT(l:List UInt8)(c:UInt8):(put l c).length<=l.length+1:=by unfold put;split <;> simp
theorem infoNode:(prog.info? 186).map (λi=>(i.zero,i.size,i.bytes))=some (some (.agg #[.int .i64 0,.int .i64 0,.int .i64 0,.int .i64 0,.int .i64 0,.int .i64 0]),6,48):=by kernel_rfl
section
variable {B:Nat} {WV:Value} {w:World} {P:Nat} {ws:List ByteArray} {s:PS} {F:List Nat} {wv vv hv nv:Value}
theorem Ek.va(h:Ek ws s)(hp:s.pos<ws.length)(c:UInt8):Ek ws { s with pos:=s.pos+1,vars:=put s.vars c }:=by
 obtain⟨a,b,d,e⟩:=h;have:=QT s.vars c;simp only[Ek];omega
theorem dI.readsV(h:dI B WV w P ws s F wv vv hv nv):w.cell? ⟨P,1,none⟩=some (.int .i64 s.pos)/\w.cell? ⟨P,2,none⟩=some (.bool s.failed)/\w.cell? ⟨P,3,none⟩=some vv/\w.cell? ⟨P,4,none⟩=some hv/\w.cell? ⟨P,5,none⟩=some nv/\(∀j,w.frozen? ⟨P,j,none⟩=false):=by
 obtain⟨hP,_⟩:=h;obtain⟨⟨c0,c1,c2,c3,c4,c5⟩,fz⟩:=jF hP;exact⟨c1,c2,c3,c4,c5,fz⟩
theorem sG{e:TypeId}{v:Value}{sz n:Nat}{xs:List Value}(h:w.ownsRow B e sz v n xs)(k:Nat)(o:Obj):((w.drewN k).alloc o).ownsRow B e sz v n xs:=ownsRow.alloc (w:=w.drewN k) h o
theorem Qy(w:World)(k:Nat)(x:Value)(T:TypeId):∀(j:Nat) (u:Value),[x][j]?=some u->((w.drewN k).alloc (.cells #[x] T)).cell? ((⟨w.heap.size,0,none⟩:Addr).add j)=some u:=BB (w.drewN k) x T
theorem wM(n:Int):∀u∈[Value.int .u8 n],u.oneCell'=true:=by intro u hu;simp at hu;subst hu;rfl
theorem zw{B:Nat}(h:B<=w.heap.size)(k:Nat)(o:Obj):B<=((w.drewN k).alloc o).heap.size:=by simp;omega
theorem s7{w2:World}{o:Obj}{row:Option Nat}{k:Nat}(hg:((w.drewN k).alloc o).grownBy w2 row)(hP:P<w.heap.size)(aH:row≠some P):w2.heap[P]?=w.heap[P]?:=by
 rw[hg.block P (by simp;omega) (λe=>aH e.symm)];exact heap_alloc (w.drewN k) _ _ hP
theorem iu{w2:World}{o:Obj}{row:Option Nat}{k:Nat}(hg:((w.drewN k).alloc o).grownBy w2 row)(hP:P<w.heap.size)(aH:row≠some P)(j:Nat){v:Value}(h:w.cell? ⟨P,j,none⟩=some v):w2.cell? ⟨P,j,none⟩=some v :=
 (cell?_of_block (a:=⟨P,j,none⟩) (s7 hg hP aH)).trans h
theorem fx{w2:World}{o:Obj}{row:Option Nat}{k:Nat}(hg:((w.drewN k).alloc o).grownBy w2 row)(hP:P<w.heap.size)(aH:row≠some P)(j:Nat){b:Bool}(h:w.frozen? ⟨P,j,none⟩=b):w2.frozen? ⟨P,j,none⟩=b :=
 (World.frozen?_of_block (a:=⟨P,j,none⟩) (s7 hg hP aH)).trans h
theorem kO{n j:Nat}{v:Value}{l:List UInt8}{c:UInt8}(hj:j=plc l c)(h:w.ownsRow B 5 1 v l.length (bc l))(hl:l.length<=20000):
  Calls prog 212 #[v,.int .u8 (c.toNat:Int)] (w.drewN n) λe w''=>e=.returned (.int .i64 j)/\∃m,w''=w.drewN m:=by
 subst hj;exact Calls.quiet_of_same (LJ (B:=B) (w:=w.drewN n) c h hl)
theorem fC(h:fj B WV w P ws s F):
  Calls prog 215 #[.pointer (some ⟨P,0,none⟩)] w λe w'=>e=.returned (.int .i64 (mO ws s))/\∃F',fj B WV w' P ws (bE ws s) F'/\ar F w F' w':=by
 obtain⟨i0,hi,gY,gz,gL⟩:=info_parts infoByte;have HQ:=ab h;have HK:=ab (lG h);obtain⟨wv,vv,hv,nv,ez⟩:=h.m.named;obtain⟨hl,hp,Gf,hhl⟩:=h.f;clear h;obtain⟨u,hu⟩:∃u,u=pk ws s:=⟨_,rfl⟩;have HU:=ab hu;rw[<-hu]at HK;clear hu;cases iG:aK u with
 |false =>
  have HI:Hid (mO ws s=0):=ab (by unfold mO;rw[<-uh HU,iG];rfl);have HS:Hid (bE ws s=s.fail):=ab (by unfold bE;rw[<-uh HU,iG];rfl);obtain⟨c1,c2,c3,c4,c5,fz⟩:=ez.readsV;have f2:=fz 2;clear c1 c3 c4 c5 fz ez;go_enter func215,ntmps215;go_wp2_with (first|(go_at_call 160;refine(uh HK).mono ?_;rintro e w' ⟨rfl,n,rfl⟩)|(go_at_call 248;refine(ni u _).mono ?_;rintro e w' ⟨rfl,rfl⟩))
  go_ret;exact⟨bj (by rw[uh HI];rfl),F,⟨by rw[uh HS];exact((uh HQ).m.drewN n).setFailed true,by rw[uh HS];exact(uh HQ).f⟩,((ar.refl F w).drewN n).setCell (zq0 (uh HQ).m.memP) _⟩
 |true =>
  have hus:0<u.size:=by rw[Lm iG];omega
  have HI:Hid (mO ws s=plc s.vars u[0]):=ab (by unfold mO;rw[<-uh HU,iG,if_pos rfl,AF hus]);have HS:Hid (bE ws s={ s with pos:=s.pos+1,vars:=put s.vars u[0] }):=ab (by unfold bE;rw[<-uh HU,iG,if_pos rfl,AF hus]);have au:s.pos<ws.length:=(zD (by rw[<-uh HU];omega)).2;have aau:=wS s.vars u[0];obtain⟨j,hj⟩:∃j,j=plc s.vars u[0]:=⟨_,rfl⟩;have HJ:=ab hj;rw[<-hj]at aau;clear hj;obtain⟨ao,cap,rfl,hm,_⟩:=lY ez.2.2.2.1;obtain⟨c1,c2,c3,c4,c5,fz⟩:=ez.readsV;have f1:=fz 1;have yc:=ab ez;clear fz c2 c3 c4 c5 ez;go_enter func215,ntmps215;go_wp2_with (first|(go_at_call 160;refine(uh HK).mono ?_;rintro e w' ⟨rfl,n,rfl⟩)|(go_at_call 248;refine(ni u _).mono ?_;rintro e w' ⟨rfl,rfl⟩))
  have so:=((uh yc).drewN n).setPos (s.pos+1);have oX:ar F w F ((w.drewN n).setCell ⟨P,1,none⟩ (.int .i64 ((s.pos:Int)+1))):=((ar.refl F w).drewN n).setCell (zq0 (uh HQ).m.memP) _;rw[show(((s.pos+1:Nat)):Int)=(s.pos:Int)+1 by omega]at so;generalize (w.drewN n).setCell ⟨P,1,none⟩ (.int .i64 ((s.pos:Int)+1))=w1 at so oX ⊢;clear c1 f1;obtain⟨_,_,c3,_,_,fz⟩:=so.readsV;have f3:=fz 3;have bq:=so.2.2.2.1;have HR:=ab bq;have yJ:=ab so;have di:=ab oX;clear fz so oX bq;have zl:P<w1.heap.size:=((uh yJ).is.mem P (uh yJ).is.memP).2;have Ui:B<=w1.heap.size:=by have:=((uh yJ).is.mem P (uh yJ).is.memP).1;omega
  have Eq:Hid ((Value.slice ao s.vars.length cap).ownBlock≠some P):=ab (λe=>(uh yJ).apart.1 P (by simp[e]) rfl);by_cases fU:j=s.vars.length
  .have hjt:((j:Int)==(s.vars.length:Int))=true:=(by simp[fU]);have Yt:=ab fU;clear fU;have c3a:∀(k:Nat) (o:Obj),((w1.drewN k).alloc o).cell? ⟨P,3,none⟩=some (.slice ao s.vars.length cap):=λk o=>(cell?_of_block (a:=⟨P,3,none⟩) (heap_alloc (w1.drewN k) o P zl)).trans c3;go_quiet ((go_at_call 212;exact kO (uh HJ) (uh HR) (by omega)))
   go_wp2_with fail
   go_region_law (refine jA _ rfl (.tmp 38) (.tmp 41) 101 rfl B 5 i0 (.int .u8 0) 1 1 underlying101 hi gY gz gL rfl (by decide) (.slice ao s.vars.length cap) s.vars.length (bc s.vars) (by simp[Act.eval]) (sG (uh HR) _ _) ⟨w1.heap.size,0,none⟩ 1 [.int .u8 (u[0].toNat:Int)] (by simp[Act.eval]) rfl (Qy _ _ _ _) (wM _) (by omega) (by omega) (zw Ui _ _) ?_;intro g2 cap2 w2 bt aM dX;have c3':=iu aM zl (uh Eq) 3 c3;have f3':=fx aM zl (uh Eq) 3 f3;have HO2:=ab bt;have HG2:=ab aM;have eP:=ab dX;clear bt aM dX)
   all_goals
    go_wp2_with fail
    go_ret;obtain⟨F',ZI,ZU⟩:=dI.pushVars u[0] ((uh yJ).drewN _) (uh HG2) (uh HO2) (uh eP);refine⟨bj (by rw[uh HI,<-uh HJ]),F',⟨?_,?_⟩,((uh di).drewN _).trans ZU⟩
    .rw[uh HS];unfold put;rw[if_pos (by rw[<-uh HJ];exact uh Yt)];exact ZI
    .rw[uh HS];exact(uh HQ).f.va au _
  .have hjt:((j:Int)==(s.vars.length:Int))=false:=(by simp;omega);have Yt:=ab fU;clear fU;go_quiet ((go_at_call 212;exact kO (uh HJ) (uh HR) (by omega)))
   go_wp2_with fail
   go_ret;refine⟨bj (by rw[uh HI,<-uh HJ]),F,⟨?_,?_⟩,(uh di).drewN _⟩
   .rw[uh HS];unfold put;rw[if_neg (by rw[<-uh HJ];exact uh Yt)];exact(uh yJ).is.drewN _
   .rw[uh HS];exact(uh HQ).f.va au _
end
def kw:ByteArray:=⟨#[110,105,108]⟩
def dT(ws:List ByteArray)(s:PS):Nat:=if bL ws kw s then 0 else 1
def fh(ws:List ByteArray)(s:PS):Nat:=if bL ws kw s then 0 else mO ws s
def cd(ws:List ByteArray)(s:PS):PS:=if bL ws kw s then s.adv else bE ws s
section
variable {B:Nat} {WV:Value} {w:World} {P:Nat} {ws:List ByteArray} {s:PS} {F:List Nat}
theorem bH{w1:World}{F':List Nat}{xs:Array Value}{T:TypeId}(h0:lU B WV w P ws s F)(hS:ar F (w.alloc (.cells xs T)) F' w1):
  w1.heap[w.heap.size]?=some (.cells xs T (0,0))/\w.heap.size ∉ F'/\w.heap.size<w1.heap.size:=by
 have hn:w.heap.size ∉ F:=λhm=>by have:=(h0.mem _ hm).2;omega
 refine⟨?_,?_,?_⟩
 .rw[hS.block _ (by simp) hn];exact heap_alloc_new w _
 .intro hm;rcases hS.foot _ hm with h|h
  .exact hn h
  .simp at h;omega
 .have:=hS.size;simp at this;omega
theorem az{w0 w1:World}{F':List Nat}{r:Nat}{o:Obj}(hr:w0.heap[r]?=some o)(hn:r ∉ F)(hS:ar F w0 F' w1):w1.heap[r]?=some o/\r ∉ F'/\r<w1.heap.size:=by
 have hl:=(Array.getElem?_eq_some_iff.1 hr).1;refine⟨?_,?_,?_⟩
 .rw[hS.block _ hl hn];exact hr
 .intro hm;rcases hS.foot _ hm with h|h
  .exact hn h
  .omega
 .have:=hS.size;omega
theorem kS{r:Nat}{a b:Value}{T:TypeId}(h:w.heap[r]?=some (.cells #[a,b] T (0,0))):(w.cell? ⟨r,0,none⟩=some a/\w.cell? ⟨r,1,none⟩=some b)/\w.frozen? ⟨r,0,none⟩=false/\w.frozen? ⟨r,1,none⟩=false:=by
 refine⟨⟨?_,?_⟩,?_,?_⟩ <;> simp[World.cell?,World.frozen?,h]
theorem fj.alloc(h:fj B WV w P ws s F)(o:Obj):fj B WV (w.alloc o) P ws s F:=⟨h.m.alloc o,h.f⟩
theorem fj.setOther(h:fj B WV w P ws s F){p:Addr}(hp:p.block ∉ F)(u:Value):fj B WV (w.setCell p u) P ws s F:=⟨h.m.setOther hp u,h.f⟩
theorem iy(h:fj B WV w P ws s F):
  Calls prog 213 #[.pointer (some ⟨P,0,none⟩)] w λe w'=>e=.returned (.agg #[.int .i64 (dT ws s),.int .i64 (fh ws s)])/\∃F',fj B WV w' P ws (cd ws s) F'/\ar F w F' w':=by
 have HQ:=ab h;have HA:=λo=>ab (aA kw (by decide) (h.alloc o));clear h;cases hb:bL ws kw s with
 |true =>
  have HK:Hid (dT ws s=0):=ab (if_pos hb);have HI:Hid (fh ws s=0):=ab (if_pos hb);have HS:Hid (cd ws s=lW ws kw s):=ab (by unfold cd lW;rw[if_pos hb,if_pos hb]);simp only[hb]at HA;clear hb;go_enter func213,ntmps213;go_wp2_with (go_at_call 158;refine(uh (HA _)).mono ?_;rintro e w' ⟨rfl,hI,hS⟩;obtain⟨hb,hn,hl⟩:=bH (uh HQ).m hS;obtain⟨⟨d0,d1⟩,e0,e1⟩:=kS hb;have ep:=ab hI;have dh:=ab hS;clear hI hS hb)
  refine bodyPost_ret (v:=.agg #[.int .i64 0,.int .i64 0]) (by simp[results,Tryz.results213,go_sem,d0,d1]) rfl ⟨by rw[uh HK,uh HI];rfl,F,?_,?_⟩
  .rw[uh HS];exact((uh ep).setOther hn _).setOther hn _
  .exact((((ar.refl F w).alloc _).trans (uh dh)).setCell (zq1 (zq4 _)) _).setCell (zq1 (zq4 _)) _
 |false =>
  have HK:Hid (dT ws s=1):=ab (if_neg (by simp[hb]));have HI:Hid (fh ws s=mO ws s):=ab (if_neg (by simp[hb]));have HS:Hid (cd ws s=bE ws s):=ab (if_neg (by simp[hb]));have sR:Hid (lW ws kw s=s):=ab (if_neg (by simp[hb]));simp only[hb]at HA;clear hb;go_enter func213,ntmps213;go_wp2_with (go_at_call 158;refine(uh (HA _)).mono ?_;rintro e w' ⟨rfl,hI,hS⟩;obtain⟨hb,hn,hl⟩:=bH (uh HQ).m hS;rw[uh sR]at hI;have ep:=ab hI;have dh:=ab hS;have HB:=ab hb;clear hI hS hb)
  refine(fC (uh ep)).mono ?_;rintro e w2 ⟨rfl,F',fT,cS⟩;obtain⟨dy,vY,Ps⟩:=az (uh HB) hn cS;obtain⟨⟨d0,d1⟩,e0,e1⟩:=kS dy;have ja:=ab fT;have iV:=ab cS;clear fT cS dy;go_wp2_with fail
  refine bodyPost_ret (v:=.agg #[.int .i64 1,.int .i64 (mO ws s)]) (by simp[results,Tryz.results213,go_sem,d0,d1]) rfl ⟨by rw[uh HK,uh HI];rfl,F',?_,?_⟩
  .rw[uh HS];exact((uh ja).setOther vY _).setOther vY _
  .exact(((((ar.refl F w).alloc _).trans (uh dh)).trans (uh iV)).setCell (zq1 (zq4 _)) _).setCell (zq1 (zq4 _)) _
end
def tX(ws:List ByteArray)(s:PS):Nat:=if lg (pk ws s) then 2 else dT ws s
def tW(ws:List ByteArray)(s:PS):Nat:=if lg (pk ws s) then plc s.hid (Cq (pk ws s)) else fh ws s
def fK(ws:List ByteArray)(s:PS):PS:=if lg (pk ws s) then { s with pos:=s.pos+1,hid:=put s.hid (Cq (pk ws s)) } else cd ws s
theorem RM{u:ByteArray}(h:lg u=true):u.size=1:=by
 by_cases hs:u.size=1
 .exact hs
 .rw[JW u hs]at h;cases h
section
variable {B:Nat} {WV:Value} {w:World} {P:Nat} {ws:List ByteArray} {s:PS} {F:List Nat} {wv vv hv nv:Value}
theorem Ek.te(h:Ek ws s)(hp:s.pos<ws.length)(c:UInt8):Ek ws { s with pos:=s.pos+1,hid:=put s.hid c }:=by
 obtain⟨a,b,d,e⟩:=h;have:=QT s.hid c;simp only[Ek];omega
theorem rx(h:fj B WV w P ws s F):
  Calls prog 184 #[.pointer (some ⟨P,0,none⟩)] w λe w'=>e=.returned (.agg #[.int .i64 (tX ws s),.int .i64 (tW ws s)])/\∃F',fj B WV w' P ws (fK ws s) F'/\ar F w F' w':=by
 obtain⟨i0,hi,gY,gz,gL⟩:=info_parts infoByte;have HQ:=ab h;obtain⟨w0,mB⟩:∃w0,w0=w.alloc (.cells #[.int .i64 0,.int .i64 0] 184):=⟨_,rfl⟩;have h0:fj B WV w0 P ws s F:=by rw[mB];exact h.alloc _
 have Yz:Hid (ar F w F w0):=ab (by rw[mB];exact(ar.refl F w).alloc _);have J2:Hid (w0.heap[w.heap.size]?=some (.cells #[.int .i64 0,.int .i64 0] 184 (0,0))):=ab (by rw[mB];exact heap_alloc_new w _);have HN0:Hid (w.heap.size ∉ F):=ab (λhm=>by have:=(h.m.mem _ hm).2;omega);have YF:=ab mB;clear mB;have HQ0:=ab h0;have HK:=ab (lG h0);obtain⟨wv,vv,hv,nv,ez⟩:=h0.m.named;obtain⟨hl,hp,Gf,hhl⟩:=h.f;clear h h0;obtain⟨u,hu⟩:∃u,u=pk ws s:=⟨_,rfl⟩;have HU:=ab hu;rw[<-hu]at HK;clear hu;cases iG:lg u with
 |false =>
  have HIK:Hid (tX ws s=dT ws s):=ab (by unfold tX;rw[<-uh HU,iG];rfl);have HII:Hid (tW ws s=fh ws s):=ab (by unfold tW;rw[<-uh HU,iG];rfl);have HS:Hid (fK ws s=cd ws s):=ab (by unfold fK;rw[<-uh HU,iG];rfl);clear ez;go_enter func184,ntmps184;go_wp2_with (first|(rw[<-uh YF];go_at_call 160;refine(uh HK).mono ?_;rintro e w' ⟨rfl,n,rfl⟩)|(go_at_call 211;refine(qR u _).mono ?_;rintro e w' ⟨rfl,rfl⟩))
  refine(iy (w:=w0.drewN n) ⟨(uh HQ0).m.drewN n,(uh HQ0).f⟩).mono ?_;rintro e w2 ⟨rfl,F',fT,cS⟩;obtain⟨dy,vY,Ps⟩:=az (w0:=w0.drewN n) (uh J2) (uh HN0) cS;obtain⟨⟨d0,d1⟩,e0,e1⟩:=kS dy;have ja:=ab fT;have iV:=ab cS;clear fT cS dy;go_wp2_with fail
  refine bodyPost_ret (v:=.agg #[.int .i64 (dT ws s),.int .i64 (fh ws s)]) (by simp[results,Tryz.results184,go_sem,d0,d1]) rfl ⟨by rw[uh HIK,uh HII],F',?_,?_⟩
  .rw[uh HS];exact((uh ja).setOther vY _).setOther vY _
  .exact((((uh Yz).drewN n).trans (uh iV)).setCell (zq1 (zq4 _)) _).setCell (zq1 (zq4 _)) _
 |true =>
  have hus:0<u.size:=by rw[RM iG];omega
  have HIK:Hid (tX ws s=2):=ab (by unfold tX;rw[<-uh HU,iG,if_pos rfl]);have HI:Hid (tW ws s=plc s.hid u[0]):=ab (by unfold tW;rw[<-uh HU,iG,if_pos rfl,AF hus]);have HS:Hid (fK ws s={ s with pos:=s.pos+1,hid:=put s.hid u[0] }):=ab (by unfold fK;rw[<-uh HU,iG,if_pos rfl,AF hus]);have au:s.pos<ws.length:=(zD (by rw[<-uh HU];omega)).2;have aau:=wS s.hid u[0];obtain⟨j,hj⟩:∃j,j=plc s.hid u[0]:=⟨_,rfl⟩;have HJ:=ab hj;rw[<-hj]at aau;clear hj;obtain⟨ao,cap,rfl,hm,_⟩:=lY ez.2.2.2.2.1;obtain⟨c1,c2,c3,c4,c5,fz⟩:=ez.readsV;have f1:=fz 1;have yc:=ab ez;clear fz c2 c3 c4 c5 ez;go_enter func184,ntmps184;go_wp2_with (first|(rw[<-uh YF];go_at_call 160;refine(uh HK).mono ?_;rintro e w' ⟨rfl,n,rfl⟩)|(go_at_call 211;refine(qR u _).mono ?_;rintro e w' ⟨rfl,rfl⟩))
  have so:=((uh yc).drewN n).setPos (s.pos+1);have oX:ar F w0 F ((w0.drewN n).setCell ⟨P,1,none⟩ (.int .i64 ((s.pos:Int)+1))):=((ar.refl F w0).drewN n).setCell (zq0 (uh HQ).m.memP) _;rw[show(((s.pos+1:Nat)):Int)=(s.pos:Int)+1 by omega]at so;generalize (w0.drewN n).setCell ⟨P,1,none⟩ (.int .i64 ((s.pos:Int)+1))=w1 at so oX ⊢;clear c1 f1;obtain⟨bB,ku,EG⟩:=az (uh J2) (uh HN0) oX;have gb:=ab bB;clear bB;obtain⟨_,_,_,c4,_,fz⟩:=so.readsV;have f4:=fz 4;have bq:=so.2.2.2.2.1;have HR:=ab bq;have yJ:=ab so;have di:=ab oX;clear fz so oX bq;have zl:P<w1.heap.size:=((uh yJ).is.mem P (uh yJ).is.memP).2;have Ui:B<=w1.heap.size:=by have:=((uh yJ).is.mem P (uh yJ).is.memP).1;omega
  have Eq:Hid ((Value.slice ao s.hid.length cap).ownBlock≠some P):=ab (λe=>(uh yJ).apart.1 P (by simp[e]) rfl);by_cases fU:j=s.hid.length
  .have hjt:((j:Int)==(s.hid.length:Int))=true:=(by simp[fU]);have Yt:=ab fU;clear fU;have c4a:∀(k:Nat) (o:Obj),((w1.drewN k).alloc o).cell? ⟨P,4,none⟩=some (.slice ao s.hid.length cap):=λk o=>(cell?_of_block (a:=⟨P,4,none⟩) (heap_alloc (w1.drewN k) o P zl)).trans c4;go_quiet ((go_at_call 212;exact kO (uh HJ) (uh HR) (by omega)))
   go_wp2_with fail
   go_region_law (refine jA _ rfl (.tmp 34) (.tmp 37) 101 rfl B 5 i0 (.int .u8 0) 1 1 underlying101 hi gY gz gL rfl (by decide) (.slice ao s.hid.length cap) s.hid.length (bc s.hid) (by simp[Act.eval]) (sG (uh HR) _ _) ⟨w1.heap.size,0,none⟩ 1 [.int .u8 (u[0].toNat:Int)] (by simp[Act.eval]) rfl (Qy _ _ _ _) (wM _) (by omega) (by omega) (zw Ui _ _) ?_;intro g2 cap2 w2 bt aM dX;have c4':=iu aM zl (uh Eq) 4 c4;have f4':=fx aM zl (uh Eq) 4 f4;obtain⟨F',ZI,ZU⟩:=dI.pushHid u[0] ((uh yJ).drewN _) aM bt dX;have xL:=ab ZI;have HS':=ab ZU;clear bt aM dX ZI ZU)
   all_goals
    obtain⟨dy,vY,Ps⟩:=az (w0:=w1.drewN _) (uh gb) ku (uh HS');generalize IM:World.setCell _ (⟨P,4,none⟩:Addr) _=w3 at xL HS' dy Ps ⊢;obtain⟨⟨d0,d1⟩,e0,e1⟩:=kS dy;clear dy IM;go_wp2_with fail
    refine bodyPost_ret (v:=.agg #[.int .i64 2,.int .i64 j]) (by simp[results,Tryz.results184,go_sem,d0,d1]) rfl ⟨by rw[uh HIK,uh HI,<-uh HJ];rfl,F',⟨?_,?_⟩,?_⟩
    .rw[uh HS];unfold put;rw[if_pos (by rw[<-uh HJ];exact uh Yt)];exact((uh xL).setOther vY _).setOther vY _
    .rw[uh HS];exact(uh HQ).f.te au _
    .exact((((uh Yz).trans ((uh di).drewN _)).trans (uh HS')).setCell (zq1 (zq4 _)) _).setCell (zq1 (zq4 _)) _
  .have hjt:((j:Int)==(s.hid.length:Int))=false:=(by simp;omega);have Yt:=ab fU;clear fU;obtain⟨⟨d0,d1⟩,e0,e1⟩:=kS (uh gb);go_quiet ((go_at_call 212;exact kO (uh HJ) (uh HR) (by omega)))
   go_wp2_with fail
   refine bodyPost_ret (v:=.agg #[.int .i64 2,.int .i64 j]) (by simp[results,Tryz.results184,go_sem,d0,d1]) rfl ⟨by rw[uh HIK,uh HI,<-uh HJ];rfl,F,⟨?_,?_⟩,?_⟩
   .rw[uh HS];unfold put;rw[if_neg (by rw[<-uh HJ];exact uh Yt)];exact(((uh yJ).is.drewN _).setOther ku _).setOther ku _
   .rw[uh HS];exact(uh HQ).f.te au _
   .exact((((uh Yz).trans (uh di)).drewN _).setCell (zq1 (zq4 _)) _).setCell (zq1 (zq4 _)) _
end
def gU:ByteArray:=⟨#[61]⟩
def tt:ByteArray:=⟨#[33,61]⟩
def XR:ByteArray:=⟨#[45,62]⟩
def gl:ByteArray:=⟨#[40]⟩
def nj:ByteArray:=⟨#[44]⟩
def iW:ByteArray:=⟨#[41]⟩
def pW:ByteArray:=⟨#[101,109,112]⟩
def IU:ByteArray:=⟨#[108,115]⟩
def dE:ByteArray:=⟨#[42]⟩
def j8(ws:List ByteArray)(s:PS):Nat:=if bL ws gU s then 1 else if bL ws tt s then 2 else 3
def fB(ws:List ByteArray)(s:PS):PS:=if bL ws gU s then s.adv else if bL ws tt s then s.adv else aF ws XR s
structure cj where
 k:Nat
 lk:Nat
 li:Nat
 rk:Nat
 ri:Nat
def cj.cells(a:cj):List Value:=[.int .i64 a.k,.int .i64 a.lk,.int .i64 a.li,.int .i64 a.rk,.int .i64 a.ri]
section
variable {B:Nat} {WV:Value} {w:World} {P:Nat} {ws:List ByteArray} {s:PS} {F:List Nat} {wv vv hv nv:Value}
theorem BQ(h:fj B WV w P ws s F):
  Calls prog 185 #[.pointer (some ⟨P,0,none⟩)] w λe w'=>e=.returned (.int .i64 (j8 ws s))/\fj B WV w' P ws (fB ws s) F/\ar F w F w':=by
 have HQ:=ab h;have HA:=ab (aA gU (by decide) h);clear h;cases hb:bL ws gU s with
 |true =>
  have HK:Hid (j8 ws s=1):=ab (if_pos hb);have HS:Hid (fB ws s=lW ws gU s):=ab (by unfold fB lW;rw[if_pos hb,if_pos hb]);simp only[hb]at HA;clear hb;go_enter func185,ntmps185;go_wp2_with (go_at_call 158;refine(uh HA).mono ?_;rintro e w' ⟨rfl,hI,hS⟩)
  go_ret;exact⟨bj (by rw[uh HK];rfl),by rw[uh HS];exact hI,hS⟩
 |false =>
  have sR:Hid (lW ws gU s=s):=ab (if_neg (by simp[hb]));simp only[hb]at HA;cases aW:bL ws tt s with
  |true =>
   have HK:Hid (j8 ws s=2):=ab (by unfold j8;rw[hb,aW];rfl);have HS:Hid (fB ws s=lW ws tt s):=ab (by unfold fB lW;rw[hb,aW];rfl);have eP:=ab aW;clear hb aW;go_enter func185,ntmps185;go_wp2_with fail
   refine(uh HA).mono ?_;rintro e w1 ⟨rfl,hI,hS⟩;rw[uh sR]at hI;have lN:=aA tt (by decide) hI;rw[uh eP]at lN;have lN:=ab lN;clear hI;have cI:=ab hS;clear hS;go_wp2_with fail
   refine(uh lN).mono ?_;rintro e w2 ⟨rfl,ce,bZ⟩;go_wp2_with fail
   go_ret;exact⟨bj (by rw[uh HK];rfl),by rw[uh HS];exact ce,(uh cI).trans bZ⟩
  |false =>
   have HK:Hid (j8 ws s=3):=ab (by unfold j8;rw[hb,aW];rfl);have HS:Hid (fB ws s=aF ws XR s):=ab (by unfold fB;rw[hb,aW];rfl);have MT:Hid (lW ws tt s=s):=ab (if_neg (by simp[aW]));have eP:=ab aW;clear hb aW;go_enter func185,ntmps185;go_wp2_with fail
   refine(uh HA).mono ?_;rintro e w1 ⟨rfl,hI,hS⟩;rw[uh sR]at hI;have lN:=aA tt (by decide) hI;rw[uh eP,uh MT]at lN;have lN:=ab lN;clear hI;have cI:=ab hS;clear hS;go_wp2_with fail
   refine(uh lN).mono ?_;rintro e w2 ⟨rfl,ce,bZ⟩;have HE:=ab (aZ XR (by decide) ce);clear ce;go_wp2_with fail
   refine(uh HE).mono ?_;rintro e w3 ⟨rfl,fT,cS⟩;go_wp2_with fail
   go_ret;exact⟨bj (by rw[uh HK];rfl),by rw[uh HS];exact fT,((uh cI).trans bZ).trans cS⟩
theorem Ai{r:Nat}{a b c d e:Value}{T:TypeId}(h:w.heap[r]?=some (.cells #[a,b,c,d,e] T (0,0))):
  (w.cell? ⟨r,0,none⟩=some a/\w.cell? ⟨r,1,none⟩=some b/\w.cell? ⟨r,2,none⟩=some c/\w.cell? ⟨r,3,none⟩=some d/\w.cell? ⟨r,4,none⟩=some e) /\
  w.frozen? ⟨r,0,none⟩=false/\w.frozen? ⟨r,1,none⟩=false/\w.frozen? ⟨r,2,none⟩=false/\w.frozen? ⟨r,3,none⟩=false/\w.frozen? ⟨r,4,none⟩=false:=by
 refine⟨⟨?_,?_,?_,?_,?_⟩,?_,?_,?_,?_,?_⟩ <;> simp[World.cell?,World.frozen?,h]
def qZ(ws:List ByteArray)(s:PS):PS:=aF ws gl s
def pZ(ws:List ByteArray)(s:PS):PS:=aF ws nj (fK ws (qZ ws s))
def Bh(ws:List ByteArray)(s:PS):PS:=aF ws iW (fK ws (pZ ws s))
def XT(ws:List ByteArray)(s:PS):cj:=⟨4,tX ws (qZ ws s),tW ws (qZ ws s),tX ws (pZ ws s),tW ws (pZ ws s)⟩
theorem P7(h:fj B WV w P ws s F):
  Calls prog 183 #[.pointer (some ⟨P,0,none⟩)] w λe w'=>e=.returned (.agg (XT ws s).cells.toArray)/\∃F',fj B WV w' P ws (Bh ws s) F'/\ar F w F' w':=by
 have HQ:=ab h;have HA:=λo=>ab (aZ gl (by decide) (h.alloc o));clear h;go_enter func183,ntmps183;go_wp2_with fail
 refine(uh (HA _)).mono ?_;rintro e w1 ⟨rfl,dW,bU⟩;obtain⟨bB,ku,EG⟩:=bH (uh HQ).m bU;have gb:=ab bB;have fH:=ab dW;have cI:=ab (((ar.refl F w).alloc _).trans bU);clear bB dW bU;go_wp2_with fail
 refine(rx (uh fH)).mono ?_;rintro e w2 ⟨rfl,F2,ce,bZ⟩;obtain⟨aW,xV,yq⟩:=az (uh gb) ku bZ;have eP:=ab aW;have ep:=ab ce;have dh:=ab ((uh cI).trans bZ);clear aW ce bZ;go_wp2_with fail
 refine(aZ nj (by decide) ((uh ep).alloc _)).mono ?_;rintro e w3 ⟨rfl,fT,cS⟩;obtain⟨dy,vY,Ps⟩:=az (uh eP) xV (((ar.refl F2 w2).alloc _).trans cS);obtain⟨hc3,Dl,Di⟩:=bH (uh ep).m cS;have tD:=ab dy;have HC3:=ab hc3;have ja:=ab fT;have iV:=ab ((uh dh).trans (((ar.refl F2 w2).alloc _).trans cS));clear dy hc3 fT cS;go_wp2_with fail
 refine(rx (uh ja)).mono ?_;rintro e w4 ⟨rfl,F4,mx,fE⟩;obtain⟨nV,Py,hl4⟩:=az (uh tD) vY fE;obtain⟨Xr,EI,xU⟩:=az (uh HC3) Dl fE;have zW:=ab nV;have HC4:=ab Xr;have oO:=ab mx;have mF:=ab ((uh iV).trans fE);clear nV Xr mx fE;go_wp2_with fail
 refine(aZ iW (by decide) ((uh oO).alloc _)).mono ?_;rintro e w5 ⟨rfl,sg,gh⟩;have Uu:=((ar.refl F4 w4).alloc _).trans gh;obtain⟨eu,Dm,XB⟩:=az (uh zW) Py Uu;obtain⟨hc5,hm5,FT⟩:=az (uh HC4) EI Uu;obtain⟨hd5,ho5,hp5⟩:=bH (uh oO).m gh;obtain⟨⟨a0,a1,a2,a3,a4⟩,g0,g1,g2,g3,g4⟩:=Ai eu;obtain⟨⟨d0,d1⟩,e0,e1⟩:=kS hc5;obtain⟨⟨x0,x1⟩,y0,y1⟩:=kS hd5;have Hb:=ab sg;have tE:=ab ((uh mF).trans Uu);clear eu hc5 hd5 sg gh Uu;go_wp2_with fail
 refine bodyPost_ret (v:=.agg (XT ws s).cells.toArray) (by simp[results,Tryz.results183,go_sem,a0,a1,a2,a3,a4,XT,cj.cells,qZ,pZ]) rfl ⟨rfl,F4,?_,?_⟩
 .exact(((((uh Hb).setOther Dm _).setOther Dm _).setOther Dm _).setOther Dm _).setOther Dm _
 .exact(((((uh tE).setCell (zq1 (zq4 _)) _).setCell (zq1 (zq4 _)) _).setCell (zq1 (zq4 _)) _).setCell (zq1 (zq4 _)) _).setCell (zq1 (zq4 _)) _
end
def eJ(ws:List ByteArray)(s:PS):PS:=if bL ws pW s then s.adv else if bL ws IU s then Bh ws s.adv else fK ws (fB ws (fK ws s))
def qw(ws:List ByteArray)(s:PS):cj :=
 if bL ws pW s then ⟨0,0,0,0,0⟩ else if bL ws IU s then XT ws s.adv else ⟨j8 ws (fK ws s),tX ws s,tW ws s,tX ws (fB ws (fK ws s)),tW ws (fB ws (fK ws s))⟩
def bO(l:List cj):List Value:=l.flatMap cj.cells
def jl(ws:List ByteArray):Nat->PS->List cj × PS
 |0,s=>([],s)
 |n+1,s=>if bL ws dE s then (qw ws s.adv::(jl ws n (eJ ws s.adv)).1,(jl ws n (eJ ws s.adv)).2) else ([],s)
def foA(ws:List ByteArray)(s:PS):List cj:=qw ws s::(jl ws (ws.length+1) (eJ ws s)).1
def rH(ws:List ByteArray)(s:PS):PS:=(jl ws (ws.length+1) (eJ ws s)).2
section
variable {ws:List ByteArray} {s:PS}
theorem dl:s.pos<=s.adv.pos:=Nat.le_succ _
theorem cy(k:ByteArray):s.pos<=(aF ws k s).pos:=by unfold aF;split;exact dl;exact zq4 _
theorem rB:s.pos<=(bE ws s).pos:=by unfold bE;split;exact Nat.le_succ _;exact zq4 _
theorem iT:s.pos<=(cd ws s).pos:=by unfold cd;split;exact dl;exact rB
theorem uQ:s.pos<=(fK ws s).pos:=by unfold fK;split;exact Nat.le_succ _;exact iT
theorem Q6:s.pos<=(fB ws s).pos:=by unfold fB;split;exact dl;split;exact dl;exact cy _
theorem Vh:s.pos<=(Bh ws s).pos:=by
 unfold Bh pZ qZ;exact zq3 (zq3 (zq3 (zq3 (cy _) uQ) (cy _)) uQ) (cy _)
theorem Tx:s.pos<=(eJ ws s).pos:=by
 unfold eJ;split
 .exact dl
 .split
  .exact zq3 dl Vh
  .exact zq3 (zq3 uQ Q6) uQ
end
section
variable {B:Nat} {WV:Value} {w:World} {P:Nat} {ws:List ByteArray} {s:PS} {F:List Nat} {wv vv hv nv:Value}
theorem CJ(h:fj B WV w P ws s F):
  Calls prog 159 #[.pointer (some ⟨P,0,none⟩)] w λe w'=>e=.returned (.agg (qw ws s).cells.toArray)/\∃F',fj B WV w' P ws (eJ ws s) F'/\ar F w F' w':=by
 have HQ:=ab h;have HA:=λo=>ab (aA pW (by decide) (h.alloc o));clear h;cases hb:bL ws pW s with
 |true =>
  have HK:Hid (qw ws s=⟨0,0,0,0,0⟩):=ab (if_pos hb);have HS:Hid (eJ ws s=lW ws pW s):=ab (by unfold eJ lW;rw[if_pos hb,if_pos hb]);simp only[hb]at HA;clear hb;go_enter func159,ntmps159;go_wp2_with fail
  refine(uh (HA _)).mono ?_;rintro e w1 ⟨rfl,dW,bU⟩;obtain⟨bB,ku,EG⟩:=bH (uh HQ).m bU;obtain⟨⟨a0,a1,a2,a3,a4⟩,g0,g1,g2,g3,g4⟩:=Ai bB;have fH:=ab dW;have cI:=ab (((ar.refl F w).alloc _).trans bU);clear bB dW bU;go_wp2_with fail
  refine bodyPost_ret (v:=.agg #[.int .i64 0,.int .i64 0,.int .i64 0,.int .i64 0,.int .i64 0]) (by simp[results,Tryz.results159,go_sem,a0,a1,a2,a3,a4]) rfl ⟨by rw[uh HK];rfl,F,?_,?_⟩
  .rw[uh HS];exact(((((uh fH).setOther ku _).setOther ku _).setOther ku _).setOther ku _).setOther ku _
  .exact(((((uh cI).setCell (zq1 (zq4 _)) _).setCell (zq1 (zq4 _)) _).setCell (zq1 (zq4 _)) _).setCell (zq1 (zq4 _)) _).setCell (zq1 (zq4 _)) _
 |false =>
  have sR:Hid (lW ws pW s=s):=ab (if_neg (by simp[hb]));simp only[hb]at HA;cases aW:bL ws IU s with
  |true =>
   have HK:Hid (qw ws s=XT ws s.adv):=ab (by unfold qw;rw[hb,aW];rfl);have HS:Hid (eJ ws s=Bh ws s.adv):=ab (by unfold eJ;rw[hb,aW];rfl);have MT:Hid (lW ws IU s=s.adv):=ab (if_pos aW);have eP:=ab aW;clear hb aW;go_enter func159,ntmps159;go_wp2_with fail
   refine(uh (HA _)).mono ?_;rintro e w1 ⟨rfl,dW,bU⟩;obtain⟨bB,ku,EG⟩:=bH (uh HQ).m bU;rw[uh sR]at dW;have gb:=ab bB;have cI:=ab (((ar.refl F w).alloc _).trans bU);have lN:=aA IU (by decide) dW;rw[uh eP,uh MT]at lN;replace lN:=ab lN
   clear bB dW bU;go_wp2_with fail
   refine(uh lN).mono ?_;rintro e w2 ⟨rfl,ce,bZ⟩;obtain⟨aW,xV,yq⟩:=az (uh gb) ku bZ;have eP:=ab aW;have ep:=ab ce;have dh:=ab ((uh cI).trans bZ);clear aW ce bZ;go_wp2_with fail
   refine(P7 (uh ep)).mono ?_;rintro e w3 ⟨rfl,F3,fT,cS⟩;obtain⟨dy,vY,Ps⟩:=az (uh eP) xV cS;obtain⟨⟨a0,a1,a2,a3,a4⟩,g0,g1,g2,g3,g4⟩:=Ai dy;have ja:=ab fT;have iV:=ab ((uh dh).trans cS);clear dy fT cS;obtain⟨k0,k1,k2,k3,k4,hat⟩:∃k0 k1 k2 k3 k4,XT ws s.adv=⟨k0,k1,k2,k3,k4⟩:=⟨_,_,_,_,_,rfl⟩;rw[hat]at HK ⊢;clear hat;simp only[cj.cells];go_wp2_with fail
   refine bodyPost_ret (v:=.agg #[.int .i64 k0,.int .i64 k1,.int .i64 k2,.int .i64 k3,.int .i64 k4]) (by simp[results,Tryz.results159,go_sem,a0,a1,a2,a3,a4]) rfl ⟨by rw[uh HK];rfl,F3,?_,?_⟩
   .rw[uh HS];exact(((((uh ja).setOther vY _).setOther vY _).setOther vY _).setOther vY _).setOther vY _
   .exact(((((uh iV).setCell (zq1 (zq4 _)) _).setCell (zq1 (zq4 _)) _).setCell (zq1 (zq4 _)) _).setCell (zq1 (zq4 _)) _).setCell (zq1 (zq4 _)) _
  |false =>
   have HK:Hid (qw ws s=⟨j8 ws (fK ws s),tX ws s,tW ws s,tX ws (fB ws (fK ws s)),tW ws (fB ws (fK ws s))⟩):=ab (by unfold qw;rw[hb,aW];rfl);have HS:Hid (eJ ws s=fK ws (fB ws (fK ws s))):=ab (by unfold eJ;rw[hb,aW];rfl);have MT:Hid (lW ws IU s=s):=ab (if_neg (by simp[aW]));have eP:=ab aW;clear hb aW;go_enter func159,ntmps159;go_wp2_with fail
   refine(uh (HA _)).mono ?_;rintro e w1 ⟨rfl,dW,bU⟩;obtain⟨bB,ku,EG⟩:=bH (uh HQ).m bU;rw[uh sR]at dW;have gb:=ab bB;have cI:=ab (((ar.refl F w).alloc _).trans bU);have lN:=aA IU (by decide) dW;rw[uh eP,uh MT]at lN;replace lN:=ab lN
   clear bB dW bU;go_wp2_with fail
   refine(uh lN).mono ?_;rintro e w2 ⟨rfl,ce,bZ⟩;obtain⟨aW,xV,yq⟩:=az (uh gb) ku bZ;have eP:=ab aW;have ep:=ab ce;have dh:=ab ((uh cI).trans bZ);clear aW ce bZ;go_wp2_with fail
   refine(rx (uh ep)).mono ?_;rintro e w3 ⟨rfl,F3,fT,cS⟩;obtain⟨dy,vY,Ps⟩:=az (uh eP) xV cS;have tD:=ab dy;have ja:=ab fT;have iV:=ab ((uh dh).trans cS);clear dy fT cS;go_wp2_with fail
   refine(BQ ((uh ja).alloc _)).mono ?_;rintro e w4 ⟨rfl,mx,fE⟩;obtain⟨nV,Py,hl4⟩:=az (uh tD) vY (((ar.refl F3 w3).alloc _).trans fE);obtain⟨Xr,EI,xU⟩:=bH (uh ja).m fE;have zW:=ab nV;have HC4:=ab Xr;have oO:=ab mx;have mF:=ab ((uh iV).trans (((ar.refl F3 w3).alloc _).trans fE));clear nV Xr mx fE;go_wp2_with fail
   refine(rx (uh oO)).mono ?_;rintro e w5 ⟨rfl,F5,sg,gh⟩;obtain⟨eu,Dm,XB⟩:=az (uh zW) Py gh;obtain⟨hc5,hm5,FT⟩:=az (uh HC4) EI gh;obtain⟨⟨a0,a1,a2,a3,a4⟩,g0,g1,g2,g3,g4⟩:=Ai eu;obtain⟨⟨d0,d1⟩,e0,e1⟩:=kS hc5;have Hb:=ab sg;have tE:=ab ((uh mF).trans gh);clear eu hc5 sg gh;go_wp2_with fail
   refine bodyPost_ret (v:=.agg #[.int .i64 (j8 ws (fK ws s)),.int .i64 (tX ws s),.int .i64 (tW ws s),.int .i64 (tX ws (fB ws (fK ws s))),.int .i64 (tW ws (fB ws (fK ws s)))]) (by simp[results,Tryz.results159,go_sem,cell?_alloc_past,XB,a0,a1,a2,a3,a4]) rfl ⟨by rw[uh HK];rfl,F5,?_,?_⟩
   .rw[uh HS];exact((((((uh Hb).setOther Dm _).setOther Dm _).setOther Dm _).setOther Dm _).setOther Dm _).alloc _
   .exact((((((uh tE).setCell (zq1 (zq4 _)) _).setCell (zq1 (zq4 _)) _).setCell (zq1 (zq4 _)) _).setCell (zq1 (zq4 _)) _).setCell (zq1 (zq4 _)) _).alloc _
end
structure Pr where
 k:Nat
 l:Nat
 r:Nat
def ay:Pr:=⟨0,0,0⟩
structure CF where
 cl:List Nat
 ap:List Pr
 ow:List Pr
def xy(k i:Nat):Nat:=if k=1 then 1+i else if k=2 then 5+i else 0
def pf(c:List Nat)(a:cj):List Nat:=if a.k=1 then c.map (λx=>if x=c.getD (xy a.rk a.ri) 0 then c.getD (xy a.lk a.li) 0 else x) else c
def nA(al:List cj):List Nat:=al.foldl pf (range 13)
def jq(c:List Nat)(a:cj):Pr:=⟨a.k,c.getD (xy a.lk a.li) 0,c.getD (xy a.rk a.ri) 0⟩
def bX(al:List cj):CF:=⟨(nA al).take 5,(al.filter (λa=>a.k==2)).map (jq (nA al)),(al.filter (λa=>a.k==3||a.k==4)).map (jq (nA al))⟩
def cE:List Pr->Nat->Option Nat
 |[],_=>none
 |p::r,c=>if p.l=c then some 0 else (cE r c).map (·+1)
def tJ:List Nat->List Pr->Bool
 |_,[]=>false
 |seen,p::r=>if p.l∈seen then true else tJ (p.l::seen) r
def gI(f:CF):Bool:=f.ap.any (λp=>p.l==p.r)||tJ [f.cl.getD 0 0] f.ow
def mH(f:CF)(a b:Nat):Bool:=((cE f.ow a).isSome&&((cE f.ow b).isSome||b==f.cl.getD 0 0))||((cE f.ow b).isSome&&a==f.cl.getD 0 0)
def aV(f:CF)(a b:Nat):Bool:=if a=b then false else f.ap.any (λp=>(p.l==a&&p.r==b)||(p.l==b&&p.r==a))||mH f a b
structure SS where
 bd:List (Option Nat)
 ot:List (Option Nat)
 un:Nat
 pl:List Bool
 st:Int
def SS.b(s:SS)(c:Nat):Option Nat:=s.bd.getD c none
def Mb(V T:CF)(s:SS):Bool:=T.ap.all (λp=>p.l != p.r&&(match s.b p.l,s.b p.r with|some a,some b=>aV V a b|_,_=>true))
def Sp(T:CF)(s:SS):List Nat->Option Nat->Option Nat
 |[],o=>o
 |k::r,o=>if s.pl.getD k false=true then Sp T s r o else if (s.b (T.ow.getD k ay).l).isSome=true then some k else Sp T s r (if o.isSome=true then o else some k)
def Y5(T:CF)(s:SS):Option Nat:=Sp T s (range s.pl.length) none
def Gz(W:SS->Nat->Nat->Nat->Bool × SS)(k left count:Nat):List Pr->SS->Bool × SS
 |[],s=>(false,{ s with bd:=s.bd.set left none })
 |p::r,s=>match W { s with bd:=s.bd.set left (some p.l) } k p.l count with
  |(true,s')=>(true,s')
  |(false,s')=>Gz W k left count r s'
def zF(W:SS->Nat->Nat->Nat->Bool × SS)(V T:CF)(s:SS)(count:Nat):Bool × SS :=
 if T.ow.length=count then (decide (s.un=0)&&Mb V T s,s)
 else if s.un<T.ow.length-count then (false,s)
 else match Y5 T s with
  |none=>(false,s)
  |some k=>match s.b (T.ow.getD k ay).l with
   |some at_=>W s k at_ count
   |none=>Gz W k (T.ow.getD k ay).l count V.ow s
def Fq(P:SS->Nat->Bool × SS)(T:CF)(s:SS)(k at_ count:Nat):Bool × SS :=
 if s.b (T.ow.getD k ay).r≠none/\s.b (T.ow.getD k ay).r≠some at_ then (false,s)
 else match P { s with bd:=s.bd.set (T.ow.getD k ay).r (some at_),pl:=s.pl.set k true } (count+1) with
  |(true,s')=>(true,s')
  |(false,s')=>(false,{ s' with pl:=s'.pl.set k false,bd:=s'.bd.set (T.ow.getD k ay).r (s.b (T.ow.getD k ay).r) })
def wk(V T:CF):Nat->SS->Nat->Nat->Nat->Bool × SS
 |0,s,_,_,_=>(false,s)
 |m+1,s,k,at_,count =>
  if wrap64 (s.st-1)<0 then (false,{ s with st:=wrap64 (s.st-1) })
  else match cE V.ow at_ with
   |none=>(false,{ s with st:=wrap64 (s.st-1) })
   |some i =>
    if s.ot.getD i none≠none then (false,{ s with st:=wrap64 (s.st-1) })
    else if (T.ow.getD k ay).k≠4/\(V.ow.getD i ay).k=4 then (false,{ s with st:=wrap64 (s.st-1) })
    else match Fq (zF (wk V T m) V T) T { s with st:=wrap64 (s.st-1),ot:=s.ot.set i (some k),un:=s.un-1 } k (V.ow.getD i ay).r count with
     |(true,s')=>(true,s')
     |(false,s2)=>match (if (T.ow.getD k ay).k=4 then wk V T m s2 k (V.ow.getD i ay).r count else (false,s2)) with
      |(true,s')=>(true,s')
      |(false,s3)=>(false,{ s3 with ot:=s3.ot.set i none,un:=s3.un+1 })
