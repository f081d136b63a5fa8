import Derived.Test.YtciihepbeacppaaGreatRG
import Derived.Laws.AppendOwnNone
import Derived.Laws.CopyOwn
import Derived.Deep.MidRow
import Derived.Deep.OwnRows
set_option maxRecDepth 100000
set_option maxHeartbeats 0
namespace Go.Proofs.YtciihepbeacppaaGreat
open Tryz Go.RowKit List World Below
set_option linter.unusedVariables false
def aaX(l:List ByteArray):Nat->Bool
 |0=>false
 |k+1=>aV (l[k]?.getD em) aW
def bW(c:Bool)(v:List ByteArray)(x:ByteArray):List ByteArray:=if c&&decide (amI v x<0) then v++[x] else v
def O9(l:List ByteArray):Nat->List ByteArray
 |0=>[]
 |k+1=>bW (aI (l[k]?.getD em)&&!aaX l k) (O9 l k) (l[k]?.getD em)
def O8(l:List ByteArray):Nat->List ByteArray
 |0=>[]
 |k+1=>bW (jH (l[k]?.getD em)) (O8 l k) (l[k]?.getD em)
theorem yH(x:ByteArray)(h:aI x=true):jH x=false:=by
 obtain⟨c,rfl⟩:=jr x (by
  by_cases hs:x.size=1
  .exact hs
  .rw[pm x hs]at h;cases h)
 rw[tD]at h;rw[GA];simp only[gZ,kA]at *;simp at h ⊢;omega
def mt:ByteArray:=⟨#[105,102]⟩
def rA:ByteArray:=⟨#[119,104,105,108,101]⟩
def l9:ByteArray:=⟨#[59]⟩
def m7:ByteArray:=⟨#[101,108,115,101]⟩
def BZ:ByteArray:=⟨#[103,111,116,111]⟩
def gt(n:Nat):oe:=⟨BZ,em,em,em,n,false⟩
def S8(w:World)(v:Value)(sz n:Nat)(xs:List Value):Prop :=
 xs.length=n*sz/\n<=40000/\((v=.slice none 0 0/\n=0)\/∃g off cap,v=.slice (some ⟨g,off,none⟩) n cap/\n<=cap/\cap<=maxLen/\∀j u,xs[j]?=some u->w.cell? ⟨g,off+j,none⟩=some u)
theorem S8.below{w w':World}{v:Value}{sz n:Nat}{xs:List Value}(h:S8 w v sz n xs)(hb:Below w.heap.size w w'):S8 w' v sz n xs:=by
 obtain⟨h1,h2,h3⟩:=h;refine⟨h1,h2,?_⟩;rcases h3 with h3|⟨g,off,cap,hv,hn,hm,hc⟩
 .exact zq0 h3
 .exact zq1 ⟨g,off,cap,hv,hn,hm,λj u hj=>by rw[hb.cell (block_lt_of_cell? w _ (hc j u hj))];exact hc j u hj⟩
theorem S8.of_own{w:World}{B:Nat}{e:TypeId}{v:Value}{sz n:Nat}{xs:List Value}(h:w.ownsRow B e sz v n xs)(hn:n<=40000):S8 w v sz n xs:=by
 have C7:=λg hg=>h.cells (g:=g) hg;refine⟨h.1,hn,?_⟩;rcases h.2 with⟨rfl,h0⟩|⟨g,cap,cur,rfl,_,_,hn,hm,_,_⟩
 .exact zq0 ⟨rfl,h0⟩
 .refine zq1 ⟨g,0,cap,rfl,hn,hm,λj u hj=>?_⟩;have:=C7 g rfl j u hj;rw[show(⟨g,0,none⟩:Addr).add j=⟨g,0+j,none⟩ by unfold Addr.add;split <;> simp_all]at this;exact this
def Vs(ns:List ByteArray)(vs:List Int)(n:ByteArray):Option Int:=if aV n b9=true then some 0 else if rb ns n<ns.length then some (vs.getD (rb ns n) 0) else none
def clP(ad:List Int)(fr:List Bool)(a:Int):Nat->Bool:=λk=>fr.getD k false&&ad.getD k 0==a
def I8(ad:List Int)(fr:List Bool)(a:Int):Nat:=((range ad.length).find? (clP ad fr a)).getD ad.length
section
variable {P:Program} {w:World}
theorem mh {ops:Array Oper} {rest:List Oper} {o:Oper} {a:Act} {Q:Exit->Act->World->Prop}
  (hg:o.guard=none) (s x:Operand) (t:TypeId) (ng:o.op=Op.call { callee:=Callee.builtin Builtin.append,args:=#[s,x],argTypes:=#[t,t] })
  (base:Nat) (e:TypeId) (i:TypeInfo) (z:Value) (size bytes:Nat) (ht:P.underlying t=some (.slice e)) (hi:P.info? e=some i) (hz:i.zero=some z)
  (iP:i.size=size) (C5:i.bytes=bytes) (Iq:z.cells.size=size) (lu:0<size)
  (v:Value) (n:Nat) (xs:List Value) (hs:a.eval s=v) (aO:w.ownsRow base e size v n xs)
  (xv:Value) (m:Nat) (news:List Value) (hx:a.eval x=xv) (hL:S8 w xv size m news) (h1:∀u∈news,u.oneCell'=true)
  (Hg:n+m<=1000000) (hb:bytes<=1000) (fH:base<=w.heap.size)
  (hK:∀v' w',w'.ownsRow base e size v' (n+m) (xs++news)->w.grownBy w' v.ownBlock->wpList P ops Q rest (a.put o.dst v') w') :
  wpList P ops Q (o::rest) a w:=by
 have hbytes:(n+m)*bytes<=140737488355328:=zq3 (Nat.mul_le_mul Hg hb) (by decide);obtain⟨hl,_,(⟨rfl,rfl⟩|⟨g,off,cap,rfl,hn,hm,hc⟩)⟩:=hL
 .have:news=[]:=eq_nil_of_length_eq_zero (by omega);subst this;refine wpList_append_own_none hg s x t ng base e i size ht hi v n xs hs aO hx ?_;exact hK v w (by simpa using aO) ⟨rfl,rfl,rfl,zq4 _,λ_ _ _=>rfl⟩
 .refine wpList_append_own w hg s x t ng base e i z size bytes ht hi hz iP C5 Iq lu v n xs hs aO ⟨g,off,none⟩ m cap news hx hl (λj u hj=>?_) h1 (by unfold maxLen;omega) hbytes fH (λv' w' r1 r2 _=>hK v' w' r1 r2);rw[show(⟨g,off,none⟩:Addr).add j=⟨g,off+j,none⟩ by unfold Addr.add;split <;> simp_all];exact hc j u hj
end
theorem infoInt:(prog.info? 3).map (λi=>(i.zero,i.size,i.bytes))=some (some (.int .i64 0),1,8):=by kernel_rfl
def aiF(ns:List ByteArray)(vs:List Int)(a:xy):Bool:=match Vs ns vs a.a,Vs ns vs a.b with|some x,some y=>(x==y) != aV a.k bM|_,_=>false
def oNm(ns:List ByteArray)(vs:List Int)(cur:ByteArray)(a:xy):ByteArray:=if (Vs ns vs a.b).isSome=false then a.b else if (Vs ns vs a.a).isSome=false then a.a else cur
def oN(ns:List ByteArray)(vs:List Int)(l:List xy):ByteArray:=l.foldl (oNm ns vs) em
def mst(vs:List Int):Int:=vs.foldl (λm v=>if m<v then v else m) 0
def oth(l:List xy):Nat->List ByteArray->List Int->Bool
 |0,_,_=>false
 |f+1,ns,vs=>if l.any (aiF ns vs) then false else if aV (oN ns vs l) em then true else
  vs.any (λv=>oth l f (ns++[oN ns vs l]) (vs++[v]))||oth l f (ns++[oN ns vs l]) (vs++[0])||oth l f (ns++[oN ns vs l]) (vs++[mst vs+1])
def YE(ad nx:List Int)(C:List ByteArray->List Int->List Bool->Bool)(a:xy)(ns:List ByteArray)(vs:List Int):Nat->Int->List Bool->Bool
 |0,_,_=>false
 |m+1,v,fr =>
  if I8 ad fr v<ad.length then
   let ok:=match Vs ns vs a.b with
    |none=>C (ns++[a.b]) (vs++[nx.getD (I8 ad fr v) 0]) (fr.set (I8 ad fr v) false)
    |some e=>(e==nx.getD (I8 ad fr v) 0)&&C ns vs (fr.set (I8 ad fr v) false)
   ok||(!aV a.k IQ&&YE ad nx C a ns vs m (nx.getD (I8 ad fr v) 0) (fr.set (I8 ad fr v) false))
  else false
def pki(ns:List ByteArray)(vs:List Int):List xy->Option Nat
 |[]=>none
 |a::r=>if (Vs ns vs a.a).isSome then some 0 else (pki ns vs r).map (·+1)
def Ud(ns:List ByteArray)(vs:List Int)(pl:List xy)(j:Nat):Nat:=match pki ns vs (pl.drop j) with|some t=>j+t|none=>0
def ra0:xy:=⟨em,em,em⟩
def Vf(ad nx:List Int)(pu:List xy):Nat->List xy->List ByteArray->List Int->List Bool->Bool
 |0,_,ns,vs,fr=>!fr.any id&&oth pu (2*pu.length+1) ns vs
 |f+1,pl,ns,vs,fr =>
  match Vs ns vs (pl.getD (Ud ns vs pl 0) ra0).a with
  |some v=>YE ad nx (Vf ad nx pu f (pl.take (Ud ns vs pl 0)++pl.drop (Ud ns vs pl 0+1))) (pl.getD (Ud ns vs pl 0) ra0) ns vs (fr.count true+1) v fr
  |none=>(range ad.length).any (λk=>fr.getD k false&&YE ad nx (Vf ad nx pu f (pl.take (Ud ns vs pl 0)++pl.drop (Ud ns vs pl 0+1))) (pl.getD (Ud ns vs pl 0) ra0) (ns++[(pl.getD (Ud ns vs pl 0) ra0).a]) (vs++[ad.getD k 0]) (fr.count true+1) (ad.getD k 0) fr)
def CG(V T:CF)(an:List (Option Nat))(st:Int):SS:=⟨an,replicate V.ow.length none,V.ow.length,replicate T.ow.length false,st⟩
def Y8(V T:CF)(an:List (Option Nat))(st:Int):Bool × SS:=wU (wk V T (V.ow.length+1)) V T (CG V T an st) 0
def vw(F:CF)(l:List Pr):CF:=⟨F.cl,F.ap,l⟩
theorem YF{y:pS}{T V:CF}(hT:Rm T)(hA:RmA T)(OT:T.ow.length<=1000000)(hVl:V.ow.length<=1000000):∀m,WkC y T V m (wk V T m):=by
 intro m;induction m with
 |zero=>intro w s k at_ count _ _ h;omega
 |succ m ih=>exact IT hT hVl ih (tU hT hA OT hVl ih)
def Sq(w:World)(q f t:Nat)(an:List (Option Nat))(st:Int):Prop :=
 ∃(mid:List Value) (vv ov uv pv:Value),Ob w 202 55 q (f9 f t an++(mid++[vv,ov,uv,pv,.int .i64 st]))/\mid.length=24/\an.length=24
theorem Ob.some{w:World}{T n A:Nat}{xs:List Value}(h:Ob w T n A xs){j:Nat}(hj:j<n):(∃u,w.cell? ⟨A,j,none⟩=some u)/\w.frozen? ⟨A,j,none⟩=false:=by
 refine⟨?_,ownsRow.frozenAt h j⟩;have hl:j<xs.length:=by have:=h.1;omega
 exact⟨xs[j],by rw[ownsRow.cellAt h j (by omega)];simp[hl]⟩
theorem Ob.set{w:World}{T n A:Nat}{xs:List Value}(h:Ob w T n A xs)(j:Nat)(u:Value):Ob (w.setCell ⟨A,j,none⟩ u) T n A (xs.set j u):=(ownsRow.stored h j u).1
theorem Ob.alloc{w:World}{T n A:Nat}{xs:List Value}(h:Ob w T n A xs)(o:Obj):Ob (w.alloc o) T n A xs:=h.of_eq (heap_alloc _ _ _ (ownsRow.lt h _ rfl).2)
def R5(xs:List Value):Nat->List Value->List Value
 |_,[]=>xs
 |o,v::r=>R5 (xs.set o v) (o+1) r
theorem Ob.setCells{T n A:Nat}:∀(vs:List Value) (o:Nat) {w:World} {xs:List Value},Ob w T n A xs->Ob (w.setCells A o vs) T n A (R5 xs o vs):=by
 intro vs;induction vs with
 |nil=>intro o w xs h;exact h
 |cons v r ih=>intro o w xs h;exact ih (o+1) (h.set o v)
theorem ma:∀(vs a mid c:List Value),mid.length=vs.length->R5 (a++(mid++c)) a.length vs=a++(vs++c):=by
 intro vs;induction vs with
 |nil =>
  intro a mid c h;have:mid=[]:=eq_nil_of_length_eq_zero h;subst this;rfl
 |cons v r ih =>
  intro a mid c h;cases mid with
  |nil=>simp at h
  |cons m mid =>
   have h2:=ih (a++[v]) mid c (by simpa using h);simp only[R5];rw[set_append_right _ _ (zq4 _),Nat.sub_self];simp only[cons_append,set_cons_zero];have e1:a++v::(mid++c)=(a++[v])++(mid++c):=(by simp);have e2:a.length+1=(a++[v]).length:=(by simp);rw[e1,e2,h2];simp
theorem aq.setCells{F F':List Nat}{a:World}{b:Nat}(hb:b∈F):∀(vs:List Value) (o:Nat) {w:World},aq F a F' w->aq F a F' (w.setCells b o vs):=by
 intro vs;induction vs with
 |nil=>intro o w h;exact h
 |cons v r ih=>intro o w h;exact ih (o+1) (h.setCell (zq0 hb) v)
theorem jM{b k:Nat}(hk:k≠b):∀(vs:List Value) (o:Nat) (w:World),(w.setCells b o vs).heap[k]?=w.heap[k]?:=by
 intro vs;induction vs with
 |nil=>intro o w;rfl
 |cons v r ih=>intro o w;exact(ih (o+1) _).trans (heap_setCell _ _ _ _ hk)
theorem info24:(prog.info? 199).map (·.size)=some 24:=by kernel_rfl
theorem GS {w:World} {q f t:Nat} {an:List (Option Nat)} {st:Int} {F T:CF} {l:List Pr} {fav fov tav tov lv:Value} (h:Sq w q f t an st) (hF:dT w f F fav fov) (hT:dT w t T tav tov) (hl:w.ownsRow 0 182 3 lv l.length (af l)) (uO:l.length<=1000000) (OT:T.ow.length<=1000000)
  (hq:∀k,k∈aG f fav fov++(aG t tav tov++lv.ownBlock.toList)->k≠q) :
  Calls prog 176 #[.pointer (some ⟨q,0,none⟩),lv] w λe w'=>e=.returned (.tuple #[])/\∃v ov pv,Sw w' ⟨q,f,t,v,an,tav,tov,fav,lv,ov,pv⟩ T (vw F l) (CG (vw F l) T an st)/\aq [q] w (CV q ov pv) w':=by
 obtain⟨mid,vv,ov0,uv,pv0,qO,WD,E2⟩:=h;have hq0:w.cell? ⟨q,0,none⟩=some (.pointer (some ⟨f,0,none⟩)):=by rw[ownsRow.cellAt qO 0 (by omega)];rfl
 have AD:=hF.c5;have hf0:=hF.cls (i:=0) (by omega);have QH:=hF.cls (i:=1) (by omega);have lj:=hF.cls (i:=2) (by omega);have lK:=hF.cls (i:=3) (by omega);have x9:=hF.cls (i:=4) (by omega);unfold fX at hf0 QH lj lK x9;obtain⟨n0,qj⟩:∃x,x=F.cl.getD 0 0:=⟨_,rfl⟩;obtain⟨n1,jf⟩:∃x,x=F.cl.getD 1 0:=⟨_,rfl⟩;obtain⟨n2,gl⟩:∃x,x=F.cl.getD 2 0:=⟨_,rfl⟩;obtain⟨n3,tr⟩:∃x,x=F.cl.getD 3 0:=⟨_,rfl⟩;obtain⟨n4,Mb⟩:∃x,x=F.cl.getD 4 0:=⟨_,rfl⟩;rw[<-qj]at hf0;rw[<-jf]at QH;rw[<-gl]at lj;rw[<-tr]at lK;rw[<-Mb]at x9;obtain⟨fao,fcap,Wt⟩:=bu hF.ap;rw[Wt]at AD;have HN:Hid (n0=F.cl.getD 0 0/\n1=F.cl.getD 1 0/\n2=F.cl.getD 2 0/\n3=F.cl.getD 3 0/\n4=F.cl.getD 4 0):=ab ⟨qj,jf,gl,tr,Mb⟩;clear qj jf gl tr Mb;obtain⟨lao,lcap,jO,acD,hln,-⟩:=dp hl;have Zz:lcap<=9223372036854775807:=by unfold maxLen at acD;omega
 have hobA:∀o,Ob (w.alloc o) 202 55 q (f9 f t an++(mid++[vv,ov0,uv,pv0,.int .i64 st])):=λo=>Ob.of_eq qO (heap_alloc _ _ _ (ownsRow.lt qO _ rfl).2);have ah3:∀o,(w.alloc o).cell? ⟨q,50,none⟩=some vv:=λo=>by
  rw[ownsRow.cellAt (hobA o) 50 (by omega)];rw[getElem?_append_right (by simp[f9,aN,E2]),getElem?_append_right (by simp[f9,aN,E2,WD])];simp[f9,aN,E2,WD]
 have Zu:∀o j,(w.alloc o).frozen? ⟨q,j,none⟩=false:=λo j=>ownsRow.frozenAt (hobA o) j;have HF:=ab hF;have HT:=ab hT;have HL:=ab hl;have HQ:=ab hq;have Pw:=ab qO;have HLV:=ab jO;have UD:=ab Wt;rw[jO];clear hF hT hl hq qO hobA acD jO Wt;go_enter func176,ntmps176;go_wp2_with fail
 go_region
 obtain⟨X,hX⟩:∃X,X=f9 f t an++(mid++[vv,ov0,uv,pv0,Value.int IntKind.i64 st]):=⟨_,rfl⟩;obtain⟨w1,wF⟩:∃w1,w1=((w.alloc (Obj.cells #[Value.int IntKind.i64 n0,Value.int IntKind.i64 n1,Value.int IntKind.i64 n2,Value.int IntKind.i64 n3,Value.int IntKind.i64 n4,Value.slice fao F.ap.length fcap,Value.slice lao l.length lcap] 179)).setCell ⟨q,50,none⟩ (Value.pointer (some ⟨w.heap.size,0,none⟩))).drew:=⟨_,rfl⟩;rw[<-wF];have hqs:q<w.heap.size:=(ownsRow.lt (uh Pw) _ rfl).2;have V6:aq [q] w [q] w1:=by rw[wF];exact(((aq.refl [q] w).alloc _).setCell (zq0 (by simp)) _).drew
 have Ld:Ob w1 202 55 q (X.set 50 (.pointer (some ⟨w.heap.size,0,none⟩))):=by
  rw[wF];have h1:=Ob.of_eq (uh Pw) (w':=w.alloc (Obj.cells #[Value.int IntKind.i64 n0,Value.int IntKind.i64 n1,Value.int IntKind.i64 n2,Value.int IntKind.i64 n3,Value.int IntKind.i64 n4,Value.slice fao F.ap.length fcap,Value.slice lao l.length lcap] 179)) (heap_alloc _ _ _ hqs);rw[<-hX]at h1;exact Ob.of_eq (ownsRow.stored h1 50 _).1 rfl
 have Ax:∀k,k<w.heap.size->k≠q->w1.heap[k]?=w.heap[k]?:=λk hk aY=>V6.block k hk (by simpa using aY);have abn:dT w1 w.heap.size (vw F l) fav lv:=by
  refine⟨?_,?_,?_⟩
  .have h1:=ownsRow_lit (base:=0) (e:=179) (size:=7) w #[Value.int IntKind.i64 n0,Value.int IntKind.i64 n1,Value.int IntKind.i64 n2,Value.int IntKind.i64 n3,Value.int IntKind.i64 n4,Value.slice fao F.ap.length fcap,Value.slice lao l.length lcap] 1 (zq5 _) (by simp[maxLen]) rfl;have h2:Ob w1 179 7 w.heap.size [Value.int IntKind.i64 n0,Value.int IntKind.i64 n1,Value.int IntKind.i64 n2,Value.int IntKind.i64 n3,Value.int IntKind.i64 n4,Value.slice fao F.ap.length fcap,Value.slice lao l.length lcap]:=by
    refine Ob.of_eq h1 ?_;rw[wF];exact heap_setCell _ _ _ _ (by show w.heap.size≠q;omega)
   obtain⟨e0,e1,e2,e3,e4⟩:=uh HN;rw[<-uh UD,<-uh HLV]at h2;unfold iq fX;rw[show(vw F l).cl=F.cl from rfl,<-e0,<-e1,<-e2,<-e3,<-e4];exact h2
  .exact ae (uh HF).ap (λk hk=>Ax k ((uh HF).ap.lt k hk).2 (uh HQ k (by simp[aG,hk])))
  .exact ae (uh HL) (λk hk=>Ax k ((uh HL).lt k hk).2 (uh HQ k (by simp[hk])))
 have abm:dT w1 t T tav tov:=(uh HT).of_eq (λk hk=>Ax k ((uh HT).lt k hk) (uh HQ k (by simp[hk])));have vM:=ab abn;have zt:=ab abm;have UN:=ab V6;obtain⟨X1,hX1⟩:∃X1,X1=X.set 50 (.pointer (some ⟨w.heap.size,0,none⟩)):=⟨_,rfl⟩;rw[<-hX1]at Ld;have HX1:=ab hX1;have HX:=ab hX;have Ps:=ab Ld;obtain⟨⟨u52,aik⟩,aiA⟩:=Ld.some (j:=52) (by omega);have abv:=Ld.set 52 (.int .i64 (l.length:Int));have WE:=run_make_row' (P:=prog) 29 3 (.int .i64 0) 8 underlying29 infoInt rfl .i64 .i64 l.length (by omega) (by omega);obtain⟨⟨u51,aij⟩,aiz⟩:=(abv.alloc (.cells (madeCells #[.int .i64 0] l.length) 3)).some (j:=51) (by omega);clear abn abm V6 hX1 hX Ld abv Ax hq0 AD hf0 QH lj lK x9 ah3 Zu;have UT:=ab wF;clear wF;go_wp2_with fail
 obtain⟨O,hO⟩:∃O,O=w1.heap.size:=⟨_,rfl⟩;obtain⟨w3,Fb⟩:∃w3,w3=((w1.setCell ⟨q,52,none⟩ (.int .i64 (l.length:Int))).alloc (.cells (madeCells #[Value.int .i64 0] l.length) 3)).setCell ⟨q,51,none⟩ (.slice (some ⟨w1.heap.size,0,none⟩) l.length l.length):=⟨_,rfl⟩;rw[<-Fb,<-hO];have hqO:q<O:=by rw[hO];exact zq6 hqs (uh UN).size
 have E0:aq [q] w1 [q] w3:=by rw[Fb];exact(((aq.refl [q] w1).setCell (zq0 (by simp)) _).alloc _).setCell (zq0 (by simp)) _
 have abF:aq [q] w [q] w3:=(uh UN).trans E0;have abw:Ob w3 202 55 q ((X1.set 52 (.int .i64 (l.length:Int))).set 51 (.slice (some ⟨O,0,none⟩) l.length l.length)):=by
  rw[Fb,hO];exact(((uh Ps).set 52 _).alloc _).set 51 _
 have TU:w3.ownsRow 0 3 1 (.slice (some ⟨O,0,none⟩) l.length l.length) l.length (replicate l.length (.int .i64 0)):=by
  have h1:=ownsRow_lit (base:=0) (e:=3) (size:=1) (w1.setCell ⟨q,52,none⟩ (.int .i64 (l.length:Int))) (madeCells #[Value.int .i64 0] l.length) l.length (zq5 _) (by simp[maxLen];omega) (by simp[madeCells]);rw[toList_madeCells_one]at h1;have e:(w1.setCell ⟨q,52,none⟩ (.int .i64 (l.length:Int))).heap.size=O:=by rw[hO];simp
  rw[e]at h1;refine ae h1 (λk hk=>?_);cases hk
  rw[Fb];exact heap_setCell _ _ _ _ (by show O≠q;omega)
 have an8:w3.heap.size=O+1:=by rw[Fb,hO];simp
 have aoj:w.heap.size<O:=by
  have:=(uh vM).lt w.heap.size (by simp[aG]);rw[hO];exact this
 have Tv:dT w3 w.heap.size (vw F l) fav lv:=(uh vM).of_eq (λk hk=>E0.block k ((uh vM).lt k hk) (by
  simp only[mem_singleton];simp only[aG,mem_cons,mem_append,Option.mem_toList]at hk;rcases hk with rfl|hk|hk
  .omega
  .exact uh HQ k (by simp[aG,hk])
  .exact uh HQ k (by simp[hk])))
 have Tu:dT w3 t T tav tov:=(uh zt).of_eq (λk hk=>E0.block k ((uh zt).lt k hk) (by
  simp only[mem_singleton];exact uh HQ k (by simp[hk])))
 have HV3:=ab Tv;have sy:=ab Tu;have agb:=ab abF;have HO3:=ab abw;have IZ:=ab TU;have HO:=ab hO;clear Tv Tu abF E0 abw TU hO Fb aik aiA aij aiz WE UT zt vM Ps UN;go_loopw [4] (λi wr=>∃k:Nat,k<=l.length/\i=.int .i64 k/\Hid (wr.ownsRow 0 3 1 (.slice (some ⟨O,0,none⟩) l.length l.length) l.length (replicate k (.int .i64 (-1))++replicate (l.length-k) (.int .i64 0)))/\Hid (aq [O] w3 [O] wr)) (λi _=>l.length-(intOf i).toNat)
 case atStart=>exact⟨0,zq5 _,rfl,ab (by simpa using uh IZ),ab (aq.refl _ _)⟩
 case round =>
  obtain⟨k,hk,rfl,bp,aS⟩:=hrel;have Hm:Ob wr 202 55 q ((X1.set 52 (.int .i64 (l.length:Int))).set 51 (.slice (some ⟨O,0,none⟩) l.length l.length)):=(uh HO3).of_eq ((uh aS).block q (by omega) (by simp;omega));have am9:X1.length=55:=by
   have h1:=(uh HO3).1;simp only[length_set]at h1;omega
  have h51:wr.cell? ⟨q,51,none⟩=some (.slice (some ⟨O,0,none⟩) l.length l.length):=by
   rw[ownsRow.cellAt Hm 51 (by omega),getElem?_set_self (by simp;omega)]
  by_cases ar:k<l.length
  .have OW:wr.cell? ⟨O,k,none⟩=some (.int .i64 0):=by
    rw[(uh bp).cellAt k (by omega),getElem?_append_right (by simp),length_replicate,Nat.sub_self,getElem?_replicate,if_pos (by omega)]
   have LH:=(uh bp).frozenAt k;have iw:=((uh bp).stored k (.int .i64 (-1))).1;have e:(replicate k (Value.int .i64 (-1))++replicate (l.length-k) (Value.int .i64 0)).set k (Value.int .i64 (-1))=replicate (k+1) (Value.int .i64 (-1))++replicate (l.length-(k+1)) (Value.int .i64 0):=by
    rw[set_append_right k _ (by simp)];simp only[length_replicate,Nat.sub_self];rw[show l.length-k=(l.length-(k+1))+1 by omega,replicate_succ,set_cons_zero,replicate_succ',append_assoc];rfl
   rw[e]at iw;have afY:=ab iw;have HSt:=ab ((uh aS).setCell (p:=⟨O,k,none⟩) (zq0 (by simp)) (.int .i64 (-1)));clear iw Hm bp aS;go_wp2_with fail
   go_roundw
   case rel=>exact⟨k+1,by omega,by go_num,afY,HSt⟩
   case measure=>simp[intOf];omega
  .have hd:decide ((k:Int)<(l.length:Int))=false:=(by simp;omega);have jz:k=l.length:=(by omega);subst jz;have ZC:wr.cell? ⟨q,1,none⟩=some (.pointer (some ⟨t,0,none⟩)):=by
    rw[ownsRow.cellAt Hm 1 (by omega),getElem?_set_ne (by omega),getElem?_set_ne (by omega),uh HX1,getElem?_set_ne (by omega),uh HX];rfl
   have EY:dT wr t T tav tov:=(uh sy).of_eq (λk hk=>(uh aS).block k ((uh sy).lt k hk) (by
    simp only[mem_singleton];rintro rfl;have:=(uh HT).lt _ hk;omega))
   have Hs:=EY.c6;obtain⟨tao,tcap,nO,ade,TX,-⟩:=dp EY.ow;have ZH:tcap<=9223372036854775807:=(by unfold maxLen at ade;omega);rw[nO]at Hs;have WE:=run_make_row' (P:=prog) 200 4 (.bool false) 1 underlying200 infoBool rfl .i64 .i64 T.ow.length (by omega) (by omega);obtain⟨⟨u53,aof⟩,aoq⟩:=(Hm.alloc (.cells (madeCells #[.bool false] T.ow.length) 4)).some (j:=53) (by omega);have amv:=ab nO;have HTr:=ab EY;have Qw:=(Hm.alloc (.cells (madeCells #[Value.bool false] T.ow.length) 4)).set 53 (Value.slice (some ⟨wr.heap.size,0,none⟩) T.ow.length T.ow.length);have Ll:((wr.alloc (.cells (madeCells #[Value.bool false] T.ow.length) 4)).setCell ⟨q,53,none⟩ (Value.slice (some ⟨wr.heap.size,0,none⟩) T.ow.length T.ow.length)).rangeAt q 2 (a7 an):=by
    intro j v hj;have ahC:j<24:=by
     have:=(List.getElem?_eq_some_iff.1 hj).1;rw[aN,E2]at this;exact this
    rw[ownsRow.cellAt Qw (2+j) (by omega),getElem?_set_ne (by omega),getElem?_set_ne (by omega),getElem?_set_ne (by omega),uh HX1,getElem?_set_ne (by omega),uh HX];rw[getElem?_append_left (by simp[f9,aN];omega)];unfold f9;rw[getElem?_append_right (by simp)];simpa[show 2+j-2=j by omega] using hj
   have Lr:((wr.alloc (.cells (madeCells #[Value.bool false] T.ow.length) 4)).setCell ⟨q,53,none⟩ (Value.slice (some ⟨wr.heap.size,0,none⟩) T.ow.length T.ow.length)).there q 26 (a7 an).toArray.size:=by
    intro j hj;have ahC:j<24:=(by simpa[aN,E2] using hj);obtain⟨⟨u,hu⟩,hz⟩:=Qw.some (j:=26+j) (by omega);exact⟨by rw[hu];rfl,hz⟩
   have s7:=Ob.setCells (a7 an) 26 Qw;have abl:(prog.info? 199).map (·.size)=some (a7 an).length:=(by rw[aN,E2];exact info24);have Tt:(prog.info? 199).map (·.size)=some (a7 an).toArray.size:=(by rw[size_toArray,aN,E2];exact info24);have abz:(a7 an).toArray.all (·.oneCell')=true:=all_oneCell_toArray (by
    intro v hv;obtain⟨o,_,rfl⟩:=mem_map.1 hv;rfl)
   have HR:=ab Ll;have zO:=ab Lr;have HI:=ab abl;have dJ:=ab Tt;have aas:=ab abz;have GK:=ab s7;obtain⟨AN,Zb⟩:∃AN,AN=a7 an:=⟨_,rfl⟩;rw[<-Zb]at HR zO HI dJ aas GK;have Us:=ab Zb;clear nO Hm EY ade Qw Ll Lr abl Tt abz s7 Zb;go_wp2_with (first|refine wpList_load_mid rfl 199 (.tmp 66) rfl q 2 rfl AN _ (uh HR) underlying199 rfl (uh HI) ?_|refine wpList_store_mid rfl 199 (.tmp 69) (.tmp 67) rfl q 26 AN.toArray rfl rfl (uh zO) (uh dJ) (uh aas) ?_)
   go_end0
   rw[<-uh HLV];have WP:(f9 f t an).length=26:=(by simp[f9,aN,E2]);have Zi:O<wr.heap.size:=(by have:=(uh aS).size;omega);have hobF:Ob (((wr.alloc (Obj.cells (madeCells #[Value.bool false] T.ow.length) 4)).setCell ⟨q,53,none⟩ (Value.slice (some ⟨wr.heap.size,0,none⟩) T.ow.length T.ow.length)).setCells q 26 AN) 202 55 q (l6 f t w.heap.size an (CG (vw F l) T an st) (.slice (some ⟨O,0,none⟩) l.length l.length) (.slice (some ⟨wr.heap.size,0,none⟩) T.ow.length T.ow.length)):=by
    have h5:=uh GK;rw[uh HX1,uh HX]at h5;have cW:∀(tl:List Value) (j:Nat) (u:Value),(f9 f t an++(mid++tl)).set (50+j) u=f9 f t an++(mid++tl.set j u):=by
     intro tl j u;rw[set_append_right _ _ (by omega),WP,set_append_right _ _ (by omega),WD,show 50+j-26-24=j by omega]
    have s0:=cW [vv,ov0,uv,pv0,Value.int IntKind.i64 st] 0 (.pointer (some ⟨w.heap.size,0,none⟩));have s1:=cW [.pointer (some ⟨w.heap.size,0,none⟩),ov0,uv,pv0,Value.int IntKind.i64 st] 2 (.int .i64 (l.length:Int));have s2:=cW [.pointer (some ⟨w.heap.size,0,none⟩),ov0,.int .i64 (l.length:Int),pv0,Value.int IntKind.i64 st] 1 (.slice (some ⟨O,0,none⟩) l.length l.length);have s3:=cW [.pointer (some ⟨w.heap.size,0,none⟩),.slice (some ⟨O,0,none⟩) l.length l.length,.int .i64 (l.length:Int),pv0,Value.int IntKind.i64 st] 3 (Value.slice (some ⟨wr.heap.size,0,none⟩) T.ow.length T.ow.length);simp only[set_cons_zero,set_cons_succ,Nat.add_zero,Nat.reduceAdd]at s0 s1 s2 s3;rw[s0,s1,s2,s3,show(26:Nat)=(f9 f t an).length from WP.symm,ma AN (f9 f t an) mid _ (by rw[uh Us,aN];omega)]at h5;rw[show 26=(f9 f t an).length from WP.symm];rw[uh Us]at h5 ⊢;exact h5
   obtain⟨w5,Xd⟩:∃w5,w5=(((wr.alloc (Obj.cells (madeCells #[Value.bool false] T.ow.length) 4)).setCell ⟨q,53,none⟩ (Value.slice (some ⟨wr.heap.size,0,none⟩) T.ow.length T.ow.length)).setCells q 26 AN):=⟨_,rfl⟩;rw[<-Xd]at hobF ⊢;have gy:∀k,k<wr.heap.size->k≠q->w5.heap[k]?=wr.heap[k]?:=by
    intro k hk aY;rw[Xd,jM aY,heap_setCell _ _ _ _ aY,heap_alloc _ _ _ hk]
   have xY:∀k,k<O->k≠q->w5.heap[k]?=w3.heap[k]?:=λk hk aY=>(gy k (by omega) aY).trans ((uh aS).block k (by omega) (by simp;omega));have gE:∀k,k∈aG t tav tov->k<w.heap.size/\k≠q:=λk hk=>⟨(uh HT).lt k hk,uh HQ k (by simp[hk])⟩;have L6:∀k,k∈aG w.heap.size fav lv->k<=w.heap.size/\k≠q:=by
    intro k hk;simp only[aG,mem_cons,mem_append,Option.mem_toList]at hk;rcases hk with rfl|hk|hk
    .exact⟨zq4 _,by omega⟩
    .exact⟨Nat.le_of_lt ((uh HF).ap.lt k hk).2,uh HQ k (by simp[aG,hk])⟩
    .exact⟨Nat.le_of_lt ((uh HL).lt k hk).2,uh HQ k (by simp[hk])⟩
   refine⟨rfl,w.heap.size,.slice (some ⟨O,0,none⟩) l.length l.length,.slice (some ⟨wr.heap.size,0,none⟩) T.ow.length T.ow.length,⟨hobF,E2,E2,?_,?_,?_,?_,?_,?_,?_⟩,?_⟩
   .have h1:=uh bp;rw[Nat.sub_self]at h1;simp only[replicate_zero,append_nil]at h1;have h2:(CG (vw F l) T an st).ot=replicate l.length none:=rfl;rw[h2];simp only[a7,map_replicate,length_replicate];exact ae h1 (λk hk=>by cases hk;exact gy O Zi (by omega))
   .have h1:=ownsRow_lit (base:=0) (e:=4) (size:=1) wr (madeCells #[Value.bool false] T.ow.length) T.ow.length (zq5 _) (by simp[maxLen];omega) (by simp[madeCells]);rw[toList_madeCells_one]at h1;have h2:(CG (vw F l) T an st).pl=replicate T.ow.length false:=rfl;rw[h2];simp only[map_replicate,length_replicate];refine ae h1 (λk hk=>?_);cases hk
    have aY:wr.heap.size≠q:=(by omega);rw[Xd,jM aY];exact heap_setCell _ _ _ _ aY
   .show [q,O,wr.heap.size].Nodup;simp;omega
   .exact(uh sy).of_eq (λk hk=>xY k (by have:=(gE k hk).1;omega) (gE k hk).2)
   .exact(uh HV3).of_eq (λk hk=>xY k (by have:=(L6 k hk).1;omega) (L6 k hk).2)
   .intro k hk;have:=gE k hk;show k ∉ [q,O,wr.heap.size];simp;omega
   .intro k hk;have:=L6 k hk;show k ∉ [q,O,wr.heap.size];simp;omega
   .have h1:=uh agb;have h2:=uh aS;have h3:aq [q] wr [q] w5:=(by rw[Xd];exact aq.setCells (by simp) _ _ (((aq.refl [q] wr).alloc _).setCell (zq0 (by simp)) _));refine⟨h3.os.trans (h2.os.trans h1.os),h3.tape.trans (h2.tape.trans h1.tape),h3.output.trans (h2.output.trans h1.output),zq3 h1.size (zq3 h2.size h3.size),λk hk hF=>?_,λk hk=>?_⟩
    .have aY:k≠q:=(by simpa using hF);exact(xY k (by omega) aY).trans (h1.block k hk hF)
    .have yd:k∈[q,O,wr.heap.size]:=hk;simp at yd;simp;omega
theorem Vc{V T:CF}{an:List (Option Nat)}{st:Int}(E2:an.length=24):Wf V T (CG V T an st)/\(uP (CG V T an st)).length+0=T.ow.length:=by
 have O4:uP (CG V T an st)=range T.ow.length:=by
  unfold uP CG;simp only[length_replicate];rw[filter_eq_self];intro k hk;have:=mem_range.1 hk;simp[getD_eq_getElem?_getD,this]
 have lM:rO (CG V T an st)=range V.ow.length:=by
  unfold rO CG;simp only[length_replicate];rw[filter_eq_self];intro k hk;have:=mem_range.1 hk;simp[getD_eq_getElem?_getD,this]
 exact⟨⟨by simp[CG],by simp[CG],E2,by rw[lM];simp[CG]⟩,by rw[O4];simp⟩
structure Se(w:World)(q f t:Nat)(an:List (Option Nat))(F T:CF)(fav fov tav tov:Value)(st:Int):Prop where
 sq:Sq w q f t an st
 ff:dT w f F fav fov
 ft:dT w t T tav tov
 nf:∀k∈aG f fav fov,k≠q
 nt:∀k∈aG t tav tov,k≠q
theorem KO{w:World}{q f t:Nat}{an:List (Option Nat)}{st:Int}{F T:CF}{l:List Pr}{fav fov tav tov lv:Value}(h:Se w q f t an F T fav fov tav tov st)(hl:w.ownsRow 0 182 3 lv l.length (af l))(hlq:∀k,lv.ownBlock=some k->k≠q)(uO:l.length<=1000000)(OT:T.ow.length<=1000000)(hR:Rm T)(hA:RmA T):
  Calls prog 153 #[.pointer (some ⟨q,0,none⟩),lv] w λe w'=>e=.returned (.bool (Y8 (vw F l) T an st).1)/\∃v ov pv,Sw w' ⟨q,f,t,v,an,tav,tov,fav,lv,ov,pv⟩ T (vw F l) (Y8 (vw F l) T an st).2/\aq [q] w (CV q ov pv) w'/\(∀k∈CV q ov pv,k=q\/w.heap.size<=k):=by
 have HB:=ab (GS h.sq h.ff h.ft hl uO OT (λk hk=>by
  simp only[mem_append,Option.mem_toList]at hk;rcases hk with hk|hk|hk
  .exact h.nf k hk
  .exact h.nt k hk
  .exact hlq k hk))
 have E2:an.length=24:=by obtain⟨_,_,_,_,_,_,_,h2⟩:=h.sq;exact h2
 have HP:=ab (λy=>tU (y:=y) (T:=T) (V:=vw F l) hR hA OT uO (m:=l.length+1) (YF hR hA OT uO _));obtain⟨hwf,O4⟩:=Vc (V:=vw F l) (T:=T) (an:=an) (st:=st) E2;have HW:=ab hwf;have HU:=ab O4;clear h hl hlq hwf O4;go_enter func153,ntmps153;go_wp2_with fail
 refine(uh HB).mono ?_;rintro e w1 ⟨rfl,v,ov,pv,bN,lI⟩;have cg:=ab bN;have zt:=ab lI;clear bN lI;go_wp2_with fail
 refine(uh HP ⟨q,f,t,v,an,tav,tov,fav,lv,ov,pv⟩ w1 (CG (vw F l) T an st) 0 (uh cg) (uh HW) (by show l.length<l.length+1;omega) (uh HU)).mono ?_;rintro e w2 ⟨rfl,bO,hT2⟩;have cj:=ab bO;have Ef:=ab hT2;clear bO hT2;go_wp2_with fail
 go_ret;refine⟨rfl,v,ov,pv,uh cj,(uh zt).trans (uh Ef),λk hk=>?_⟩;rcases(uh zt).foot k hk with h1|h1
 .exact zq0 (by simpa using h1)
 .exact zq1 h1
theorem kK{l:List Pr}{i:Nat}(hi:i<l.length)(k:Nat):(af l).set (i*3) (.int .i64 (k:Int))=af (l.set i ⟨k,(l.getD i aE).l,(l.getD i aE).r⟩):=by
 induction l generalizing i with
 |nil=>simp at hi
 |cons x l ih =>
  have hx:∀y:Pr,af (y::l)=[Value.int .i64 y.k,.int .i64 y.l,.int .i64 y.r]++af l:=λy=>rfl;cases i with
  |zero=>rw[hx,set_cons_zero,hx];rfl
  |succ i =>
   have h1:=ih (i:=i) (by simpa using hi);rw[hx,set_append_right _ _ (by simp;omega),set_cons_succ];show _=[Value.int .i64 x.k,.int .i64 x.l,.int .i64 x.r]++af _;rw[show(i+1)*3 - [Value.int .i64 (x.k:Int),.int .i64 (x.l:Int),.int .i64 (x.r:Int)].length=i*3 by simp;omega,h1];rfl
theorem ee{l:List Pr}{i:Nat}(hi:i<l.length)(r:Nat):(af l).set (i*3+2) (.int .i64 (r:Int))=af (l.set i ⟨(l.getD i aE).k,(l.getD i aE).l,r⟩):=by
 induction l generalizing i with
 |nil=>simp at hi
 |cons x l ih =>
  have hx:∀y:Pr,af (y::l)=[Value.int .i64 y.k,.int .i64 y.l,.int .i64 y.r]++af l:=λy=>rfl;cases i with
  |zero=>rw[hx,set_cons_zero,hx];rfl
  |succ i =>
   have h1:=ih (i:=i) (by simpa using hi);rw[hx,set_append_right _ _ (by simp;omega),set_cons_succ];show _=[Value.int .i64 x.k,.int .i64 x.l,.int .i64 x.r]++af _;rw[show(i+1)*3+2 - [Value.int .i64 (x.k:Int),.int .i64 (x.l:Int),.int .i64 (x.r:Int)].length=i*3+2 by simp;omega,h1];rfl
theorem l5(l:List Pr):∀u∈af l,u.oneCell'=true:=by
 intro u hu;simp only[af,mem_flatMap]at hu;obtain⟨a,_,ha⟩:=hu;simp only[RT,mem_cons,not_mem_nil,or_false]at ha;rcases ha with rfl|rfl|rfl <;> rfl
theorem infoPair:(prog.info? 182).map (λi=>(i.zero,i.size,i.bytes))=some (some (.agg #[.int .i64 0,.int .i64 0,.int .i64 0]),3,24):=by kernel_rfl
theorem dT.below{w w':World}{A:Nat}{f:CF}{av ov:Value}(h:dT w A f av ov)(hb:Below w.heap.size w w'):dT w' A f av ov:=h.of_eq (λk hk=>hb.block k (h.lt k hk))
theorem adK{w w':World}{B:Nat}{e:TypeId}{sz n:Nat}{v:Value}{xs:List Value}(h:w.ownsRow B e sz v n xs)(hb:Below w.heap.size w w'):w'.ownsRow B e sz v n xs:=ae h (λk hk=>hb.block k (h.lt k hk).2)
theorem aq.blk{q:Nat}{w w':World}{F:List Nat}(h:aq [q] w F w'):∀k,k<w.heap.size->k≠q->w'.heap[k]?=w.heap[k]?:=λk hk aY=>h.block k hk (by simpa using aY)
def BX(F T:CF):List Nat->List (Option Nat)->Option (List (Option Nat))
 |[],an=>some an
 |i::r,an=>if an.getD (T.cl.getD i 0) none≠none/\an.getD (T.cl.getD i 0) none≠some (F.cl.getD i 0) then none else BX F T r (an.set (T.cl.getD i 0) (some (F.cl.getD i 0)))
def tm(a:cf):Pr:=⟨a.k,ur a.lk a.li,ur a.rk a.ri⟩
def vf(al:List cf):Prop:=∀a∈al,(tm a).l<13/\(tm a).r<13
theorem KT{f:Nat->Nat}{c:List Nat}{i:Nat}(h:i<c.length):(c.map f).getD i 0=f (c.getD i 0):=by simp[h]
theorem yM:∀(al:List cf) (c:List Nat),vf al->c.length=13->(∀i,i<13->c.getD i 0<13)->(al.foldl mW c).length=13/\∀i,i<13->(al.foldl mW c).getD i 0<13:=by
 intro al;induction al with
 |nil=>intro c _ h1 h2;exact⟨h1,h2⟩
 |cons a al ih =>
  intro c ht h1 h2;rw[foldl_cons];have In:=ht a (by simp);have ht':vf al:=λb hb=>ht b (by simp[hb]);unfold mW;split
  .refine ih _ ht' (by simpa using h1) (λi hi=>?_);rw[KT (by omega)];split
   .exact h2 _ In.1
   .exact h2 i hi
  .exact ih _ ht' h1 h2
theorem yY(i:Nat)(h:i<13):(range 13).getD i 0=i:=by simp[h]
theorem yN{al:List cf}(ht:vf al):(mA al).length=13:=(yM al _ ht (by simp) (λi hi=>by rw[yY i hi];exact hi)).1
theorem yO{al:List cf}(ht:vf al){i:Nat}(hi:i<13):(mA al).getD i 0<13:=(yM al _ ht (by simp) (λi hi=>by rw[yY i hi];exact hi)).2 i hi
theorem EA{al:List cf}{i:Nat}(hi:i<5):(ej al).cl.getD i 0=(mA al).getD i 0:=by
 simp only[ej,getD_eq_getElem?_getD];rw[getElem?_take_of_lt hi]
theorem kI(k i:Nat)(hk:k<=2)(hi:i<=1000)(w:World):Calls prog 152 #[.agg #[.int .i64 k,.int .i64 i]] w λe w'=>e=.returned (.int .i64 (ur k i:Nat))/\Below w.heap.size w w':=by
 have AG:k=0\/k=1\/k=2:=by omega
 have hb:=(Below.refl w.heap.size w).alloc (zq4 _) (.cells #[Value.int .i64 k,.int .i64 i] 184);have HB:=ab hb;clear hb;rcases AG with rfl|rfl|rfl
 .go_enter func152,ntmps152;go_wp2_with fail
  go_ret;exact⟨rfl,uh HB⟩
 .go_enter func152,ntmps152;go_wp2_with fail
  go_ret;exact⟨bj (by unfold ur;rw[if_pos rfl];omega),uh HB⟩
 .go_enter func152,ntmps152;go_wp2_with fail
  go_ret;exact⟨bj (by unfold ur;rw[if_neg (by decide),if_pos rfl];omega),uh HB⟩
theorem Va{l:List cf}{k:Nat}(h:k<l.length):(bI l)[k*5]?=some (.int .i64 l[k].k)/\(bI l)[k*5+1]?=some (.int .i64 l[k].lk)/\(bI l)[k*5+2]?=some (.int .i64 l[k].li)/\(bI l)[k*5+3]?=some (.int .i64 l[k].rk)/\(bI l)[k*5+4]?=some (.int .i64 l[k].ri):=by
 induction l generalizing k with
 |nil=>simp at h
 |cons x l ih =>
  have hx:bI (x::l)=[Value.int .i64 x.k,.int .i64 x.lk,.int .i64 x.li,.int .i64 x.rk,.int .i64 x.ri]++bI l:=rfl;cases k with
  |zero=>rw[hx];simp
  |succ k =>
   have:=ih (k:=k) (by simpa using h);rw[hx,show(k+1)*5=k*5+5 by omega];simp only[getElem_cons_succ];refine⟨?_,?_,?_,?_,?_⟩
   .rw[getElem?_append_right (by simp)];simpa using this.1
   .rw[getElem?_append_right (by simp)];simpa[show k*5+5+1-5=k*5+1 by omega] using this.2.1
   .rw[getElem?_append_right (by simp)];simpa[show k*5+5+2-5=k*5+2 by omega] using this.2.2.1
   .rw[getElem?_append_right (by simp)];simpa[show k*5+5+3-5=k*5+3 by omega] using this.2.2.2.1
   .rw[getElem?_append_right (by simp)];simpa[show k*5+5+4-5=k*5+4 by omega] using this.2.2.2.2
theorem mm{w:World}{B:Nat}{v:Value}{l:List cf}(h:w.ownsRow B 239 5 v l.length (bI l)):
  ∃ao cap,v=.slice ao l.length cap/\cap<=9223372036854775807/\l.length<=cap/\(l≠[]->∃g,ao=some ⟨g,0,none⟩/\g<w.heap.size/\∀j,(h:j<l.length)->w.cell? ⟨g,j*5,none⟩=some (.int .i64 l[j].k)/\w.cell? ⟨g,j*5+1,none⟩=some (.int .i64 l[j].lk)/\w.cell? ⟨g,j*5+2,none⟩=some (.int .i64 l[j].li)/\w.cell? ⟨g,j*5+3,none⟩=some (.int .i64 l[j].rk)/\w.cell? ⟨g,j*5+4,none⟩=some (.int .i64 l[j].ri)):=by
 have hw:=h;rcases h.2 with⟨rfl,h0⟩|⟨g,cap,cur,rfl,_,_,hn,hm,_,_⟩
 .have:l=[]:=eq_nil_of_length_eq_zero h0;subst this;exact⟨_,_,rfl,by omega,by simp,λh=>absurd rfl h⟩
 .refine⟨_,_,rfl,by unfold maxLen at hm;omega,hn,λ_=>⟨g,rfl,(hw.lt g rfl).2,λj hj=>?_⟩⟩;have hg:=Va hj;exact⟨(hw.cellAt _ (by omega)).trans hg.1,(hw.cellAt _ (by omega)).trans hg.2.1,(hw.cellAt _ (by omega)).trans hg.2.2.1,(hw.cellAt _ (by omega)).trans hg.2.2.2.1,(hw.cellAt _ (by omega)).trans hg.2.2.2.2⟩
def mC(l:List Nat):List Value:=l.map (λn:Nat=>Value.int .i64 (n:Int))
theorem ce(l:List Nat):(mC l).length=l.length:=by simp[mC]
theorem mD{l:List Nat}{j:Nat}(h:j<l.length):(mC l)[j]?=some (.int .i64 ((l.getD j 0:Nat):Int)):=by simp[mC,h]
theorem yQ(l:List Nat)(j n:Nat):(mC l).set j (.int .i64 (n:Int))=mC (l.set j n):=by simp[mC,map_set]
def rgK(k:Nat):List Nat:=range k++replicate (13-k) 0
theorem RX{k:Nat}(h:k<13):(rgK k).set k k=rgK (k+1):=by
 unfold rgK;rw[set_append_right _ _ (by simp),length_range,Nat.sub_self,show 13-k=(13-(k+1))+1 by omega,replicate_succ,set_cons_zero,range_succ,append_assoc];rfl
def Jm(f:Nat->Nat)(c:List Nat)(j:Nat):List Nat:=(c.map f).take j++c.drop j
theorem Rw(f:Nat->Nat)(c:List Nat)(j:Nat):(Jm f c j).length=c.length:=by
 unfold Jm;rw[length_append,length_take,length_map,length_drop];omega
theorem MV(f:Nat->Nat){c:List Nat}{j:Nat}(h:j<c.length):(Jm f c j).getD j 0=c.getD j 0:=by
 unfold Jm;have e:((c.map f).take j).length=j:=by rw[length_take,length_map];omega
 simp only[getD_eq_getElem?_getD];rw[getElem?_append_right (by omega),e,Nat.sub_self,getElem?_drop,Nat.add_zero]
theorem FN(f:Nat->Nat){c:List Nat}{j:Nat}(h:j<c.length):(Jm f c j).set j (f (c.getD j 0))=Jm f c (j+1):=by
 unfold Jm;have e:((c.map f).take j).length=j:=by rw[length_take,length_map];omega
 have hm:j<(c.map f).length:=by simpa using h
 rw[set_append_right _ _ (by omega),e,Nat.sub_self,drop_eq_getElem_cons h,set_cons_zero,take_succ_eq_append_getElem hm,append_assoc];simp[h]
theorem MW(f:Nat->Nat){c:List Nat}{j:Nat}(h:j<c.length)(hf:f (c.getD j 0)=c.getD j 0):Jm f c (j+1)=Jm f c j:=by
 rw[<-FN f h,hf,<-MV f h,jZ]
theorem info13:(prog.info? 236).map (·.size)=some 13:=by kernel_rfl
theorem Iz{w:World}{B:Nat}{av:Value}{al:List cf}(h:w.ownsRow B 239 5 av al.length (bI al))(ht:vf al)(nM:al.length<=1000)(hb:∀a∈al,a.lk<=2/\a.rk<=2/\a.li<=100/\a.ri<=100):
  Calls prog 151 #[av] w λe w'=>e=.returned (.agg (mC (mA al)).toArray)/\Below w.heap.size w w':=by
 obtain⟨ao,cap,jK,rg,je,aw⟩:=mm h;have HC:=ab aw;rw[jK];clear h aw jK;go_enter func151,ntmps151;go_wp2_with fail
 obtain⟨w0,kW⟩:∃w0,w0=((w.alloc (Obj.cells #[Value.int IntKind.i64 0,Value.int IntKind.i64 0,Value.int IntKind.i64 0,Value.int IntKind.i64 0,Value.int IntKind.i64 0,Value.int IntKind.i64 0,Value.int IntKind.i64 0,Value.int IntKind.i64 0,Value.int IntKind.i64 0,Value.int IntKind.i64 0,Value.int IntKind.i64 0,Value.int IntKind.i64 0,Value.int IntKind.i64 0] 236)).alloc (Obj.cells #[Value.int IntKind.i64 0,Value.int IntKind.i64 0,Value.int IntKind.i64 0,Value.int IntKind.i64 0,Value.int IntKind.i64 0,Value.int IntKind.i64 0,Value.int IntKind.i64 0,Value.int IntKind.i64 0,Value.int IntKind.i64 0,Value.int IntKind.i64 0,Value.int IntKind.i64 0,Value.int IntKind.i64 0,Value.int IntKind.i64 0] 236)):=⟨_,rfl⟩;rw[<-kW];have Ho:Ob w0 236 13 w.heap.size (mC (replicate 13 0)):=by
  rw[kW];exact Ob.alloc (ownsRow_lit (base:=0) (e:=236) (size:=13) w #[Value.int IntKind.i64 0,Value.int IntKind.i64 0,Value.int IntKind.i64 0,Value.int IntKind.i64 0,Value.int IntKind.i64 0,Value.int IntKind.i64 0,Value.int IntKind.i64 0,Value.int IntKind.i64 0,Value.int IntKind.i64 0,Value.int IntKind.i64 0,Value.int IntKind.i64 0,Value.int IntKind.i64 0,Value.int IntKind.i64 0] 1 (zq5 _) (by simp[maxLen]) rfl) _
 have hC0:Ob w0 236 13 (w.heap.size+1) (mC (rgK 0)):=by
  have h1:=ownsRow_lit (base:=0) (e:=236) (size:=13) (w.alloc (Obj.cells #[Value.int IntKind.i64 0,Value.int IntKind.i64 0,Value.int IntKind.i64 0,Value.int IntKind.i64 0,Value.int IntKind.i64 0,Value.int IntKind.i64 0,Value.int IntKind.i64 0,Value.int IntKind.i64 0,Value.int IntKind.i64 0,Value.int IntKind.i64 0,Value.int IntKind.i64 0,Value.int IntKind.i64 0,Value.int IntKind.i64 0] 236)) #[Value.int IntKind.i64 0,Value.int IntKind.i64 0,Value.int IntKind.i64 0,Value.int IntKind.i64 0,Value.int IntKind.i64 0,Value.int IntKind.i64 0,Value.int IntKind.i64 0,Value.int IntKind.i64 0,Value.int IntKind.i64 0,Value.int IntKind.i64 0,Value.int IntKind.i64 0,Value.int IntKind.i64 0,Value.int IntKind.i64 0] 1 (zq5 _) (by simp[maxLen]) rfl;have e:(w.alloc (Obj.cells #[Value.int IntKind.i64 0,Value.int IntKind.i64 0,Value.int IntKind.i64 0,Value.int IntKind.i64 0,Value.int IntKind.i64 0,Value.int IntKind.i64 0,Value.int IntKind.i64 0,Value.int IntKind.i64 0,Value.int IntKind.i64 0,Value.int IntKind.i64 0,Value.int IntKind.i64 0,Value.int IntKind.i64 0,Value.int IntKind.i64 0] 236)).heap.size=w.heap.size+1:=by simp
  rw[e]at h1;rw[kW];exact h1
 have hB0:Below w.heap.size w w0:=by rw[kW];exact((Below.refl _ _).alloc (zq4 _) _).alloc (by simp) _
 obtain⟨R,hR⟩:∃R,R=w.heap.size:=⟨_,rfl⟩;obtain⟨C,hC⟩:∃C,C=w.heap.size+1:=⟨_,rfl⟩;rw[<-hR]at Ho;rw[<-hC]at hC0 ⊢;rw[<-hR];have hRC:R≠C:=by omega
 have V3:w.heap.size<=R:=by omega
 have hCB:w.heap.size<=C:=by omega
 clear kW hR hC;go_loopw [4] (λi wr=>∃k:Nat,k<=13/\i=.int .i64 k/\Hid (Ob wr 236 13 C (mC (rgK k)))/\Hid (Ob wr 236 13 R (mC (replicate 13 0)))/\Hid (Below w.heap.size w wr)) (λi _=>13-(intOf i).toNat)
 case atStart=>exact⟨0,zq5 _,rfl,ab hC0,ab Ho,ab hB0⟩
 case round =>
  obtain⟨k,hk,rfl,B0,ww,k9⟩:=hrel;by_cases ar:k<13
  .have hd:decide ((k:Int)<13)=true:=(by simp;omega);obtain⟨⟨u,hu⟩,hz⟩:=(uh B0).some (j:=k) ar;have K4:=(uh B0).set k (.int .i64 (k:Int));rw[yQ,RX ar]at K4;have ZW:=ab K4;have Px:=ab ((uh ww).of_eq (w':=wr.setCell ⟨C,k,none⟩ (.int .i64 (k:Int))) (heap_setCell _ _ _ _ hRC));have dS:=ab ((uh k9).setCell (p:=⟨C,k,none⟩) hCB (.int .i64 (k:Int)));clear K4;go_wp2_with fail
   go_roundw
   case rel=>exact⟨k+1,by omega,by go_num,ZW,Px,dS⟩
   case measure=>simp[intOf];omega
  .have hd:decide ((k:Int)<13)=false:=(by simp;omega);have ahF:k=13:=(by omega);subst ahF;clear hC0 Ho hB0;go_wp2_with fail
   go_loopg [19] al.length (λgn i wr=>∃k:Nat,k+gn=al.length/\i=.int .i64 k/\Hid (Ob wr 236 13 C (mC ((al.take k).foldl mW (range 13))))/\Hid (Ob wr 236 13 R (mC (replicate 13 0)))/\Hid (Below w.heap.size w wr))
   case atStart=>exact⟨0,by omega,rfl,B0,ww,k9⟩
   case round =>
    obtain⟨k,hk,rfl,B0,ww,k9⟩:=hrel;by_cases ar:k<al.length
    .have jk:decide ((k:Int)<(al.length:Int))=true:=(by simp;omega);obtain⟨g,qL,mq,aw⟩:=uh HC (by intro h;rw[h]at ar;simp at ar);subst qL;obtain⟨x0,x1,x2,x3,x4⟩:=aw k ar;obtain⟨a,ha⟩:∃a,a=al[k]:=⟨_,rfl⟩;have In:=ht _ (getElem_mem ar);have B6:=hb _ (getElem_mem ar);rw[<-ha]at x0 x1 x2 x3 x4 In B6;have c0:=((uh k9).cell (block_lt_of_cell? w _ x0)).trans x0;have c1:=((uh k9).cell (block_lt_of_cell? w _ x1)).trans x1;have c2:=((uh k9).cell (block_lt_of_cell? w _ x2)).trans x2;have c3:=((uh k9).cell (block_lt_of_cell? w _ x3)).trans x3;have c4:=((uh k9).cell (block_lt_of_cell? w _ x4)).trans x4;clear aw x0 x1 x2 x3 x4;obtain⟨c,hc⟩:∃c,c=(al.take k).foldl mW (range 13):=⟨_,rfl⟩;rw[<-hc]at B0;have fY:c.length=13:=by
      rw[hc];exact(yM (al.take k) _ (λb hb=>ht b (mem_of_mem_take hb)) (by simp) (λi hi=>by rw[yY i hi];exact hi)).1
     have fI:(al.take (k+1)).foldl mW (range 13)=mW c a:=by
      rw[take_succ_eq_append_getElem ar,foldl_append,<-hc,ha];rfl
     have cI:=ab fI;have HCc:=ab hc;have HA:=ab ha
     -- behind the copy of the atom
     have uE:=(uh k9).alloc (uh k9).size (.cells #[Value.int .i64 a.k,.int .i64 a.lk,.int .i64 a.li,.int .i64 a.rk,.int .i64 a.ri] 239);have K4:=(uh B0).alloc (.cells #[Value.int .i64 a.k,.int .i64 a.lk,.int .i64 a.li,.int .i64 a.rk,.int .i64 a.ri] 239);have V2:=(uh ww).alloc (.cells #[Value.int .i64 a.k,.int .i64 a.lk,.int .i64 a.li,.int .i64 a.rk,.int .i64 a.ri] 239);have iw:=λj=>cell_of_row (wr.alloc (.cells #[Value.int .i64 a.k,.int .i64 a.lk,.int .i64 a.li,.int .i64 a.rk,.int .i64 a.ri] 239)) wr.heap.size j #[Value.int .i64 a.k,.int .i64 a.lk,.int .i64 a.li,.int .i64 a.rk,.int .i64 a.ri] 239 (0,0) (heap_alloc_new wr _);have n0:=iw 0;have n1:=iw 1;have n2:=iw 2;have n3:=iw 3;have n4:=iw 4;simp only[getElem?_toArray,getElem?_cons_zero,getElem?_cons_succ]at n0 n1 n2 n3 n4;have dS:=ab uE;have ZW:=ab K4;have Px:=ab V2;clear uE K4 V2 iw fI hc ha B0 ww k9;by_cases LY:a.k=1
     .have aY:((a.k:Int) != 1)=false:=(by simp;omega);have IX:=ab (kI a.lk a.li B6.1 (by omega) (wr.alloc (.cells #[Value.int .i64 a.k,.int .i64 a.lk,.int .i64 a.li,.int .i64 a.rk,.int .i64 a.ri] 239)));have HK1:=ab LY;clear LY;go_wp2_with fail
      refine(uh IX).mono ?_;rintro e w1 ⟨rfl,bB⟩;have WB:ur a.lk a.li<13:=In.1;have bS:ur a.rk a.ri<13:=In.2;obtain⟨t1,vA⟩:∃t1,t1=ur a.lk a.li:=⟨_,rfl⟩;obtain⟨t2,Im⟩:∃t2,t2=ur a.rk a.ri:=⟨_,rfl⟩;rw[<-vA]at WB ⊢;rw[<-Im]at bS;have hC3:=(uh ZW).of_eq (bB.block C (ownsRow.lt (uh ZW) _ rfl).2);have hR3:=(uh Px).of_eq (bB.block R (ownsRow.lt (uh Px) _ rfl).2);have Qm:Below w.heap.size w w1:=(uh dS).trans (bB.mono (uh dS).size);have d1:=(ownsRow.cellAt hC3 t1 (by omega)).trans (mD (l:=c) (by omega));have m3:=(bB.cell (block_lt_of_cell? _ _ n3)).trans n3;have m4:=(bB.cell (block_lt_of_cell? _ _ n4)).trans n4;obtain⟨kept,LZ⟩:∃kept,kept=c.getD t1 0:=⟨_,rfl⟩;rw[<-LZ]at d1;have BQ:=ab (kI a.rk a.ri B6.2.1 (by omega) w1);have HC3:=ab hC3;have IZ:=ab hR3;have qY:=ab Qm;have zt:=ab vA;have Ef:=ab Im;have HKe:=ab LZ;clear hC3 hR3 Qm bB vA LZ n0 n1 n2 n3 n4;go_wp2_with fail
      refine(uh BQ).mono ?_;rintro e w2 ⟨rfl,aR⟩;rw[<-Im];have hC4:=(uh HC3).of_eq (aR.block C (ownsRow.lt (uh HC3) _ rfl).2);have hR4:=(uh IZ).of_eq (aR.block R (ownsRow.lt (uh IZ) _ rfl).2);have hB4:Below w.heap.size w w2:=(uh qY).trans (aR.mono (uh qY).size);have d2:=(ownsRow.cellAt hC4 t2 (by omega)).trans (mD (l:=c) (by omega));obtain⟨gone,E5⟩:∃gone,gone=c.getD t2 0:=⟨_,rfl⟩;rw[<-E5]at d2;have ZX:=ab hC4;have SY:=ab hR4;have xu:=ab hB4;have HGo:=ab E5;have HMr:Hid (mW c a=c.map (λx=>if x=gone then kept else x)):=ab (by
       unfold mW;rw[if_pos (uh HK1),<-uh zt,<-Im,<-E5,<-uh HKe])
      clear hC4 hR4 hB4 aR E5 Im d1;go_wp2_with fail
      go_loopw [9] (λi wr=>∃j:Nat,j<=13/\i=.int .i64 j/\Hid (Ob wr 236 13 C (mC (Jm (λx=>if x=gone then kept else x) c j)))/\Hid (Ob wr 236 13 R (mC (replicate 13 0)))/\Hid (Below w.heap.size w wr)) (λi _=>13-(intOf i).toNat)
      case atStart=>exact⟨0,zq5 _,rfl,ZX,SY,xu⟩
      case round =>
       obtain⟨j,hj,rfl,Zd,Zl,KZ⟩:=hrel;by_cases fC:j<13
       .have Zq:decide ((j:Int)<13)=true:=(by simp;omega);have hjc:j<c.length:=(by omega);have hcj:=(ownsRow.cellAt (uh Zd) j (by omega)).trans (mD (by rw[Rw];omega));rw[MV _ hjc]at hcj;have hzj:=ownsRow.frozenAt (uh Zd) j;obtain⟨x,hx⟩:∃x,x=c.getD j 0:=⟨_,rfl⟩;rw[<-hx]at hcj;have UJ:=ab (FN (λx=>if x=gone then kept else x) hjc);have HKp:=ab (MW (λx=>if x=gone then kept else x) hjc);rw[<-hx]at UJ HKp;by_cases ZJ:x=gone
        .have he:((x:Int)==(gone:Int))=true:=(by rw[bh];simpa using ZJ);have hC6:=(uh Zd).set j (.int .i64 (kept:Int));have vy:=uh UJ;rw[if_pos ZJ]at vy;rw[yQ,vy]at hC6;clear vy;have HC6:=ab hC6;have Py:=ab ((uh Zl).of_eq (w':=wr.setCell ⟨C,j,none⟩ (.int .i64 (kept:Int))) (heap_setCell _ _ _ _ hRC));have uY:=ab ((uh KZ).setCell (p:=⟨C,j,none⟩) hCB (.int .i64 (kept:Int)));clear hC6 ZJ hx;go_wp2_with fail
         go_roundw
         case rel=>exact⟨j+1,by omega,by go_num,HC6,Py,uY⟩
         case measure=>simp[intOf];omega
        .have he:((x:Int)==(gone:Int))=false:=(by rw[bh];simpa using ZJ);have AS:=uh HKp (if_neg ZJ);have HC6:=Zd;rw[<-AS]at HC6;clear AS ZJ hx;go_wp2_with fail
         go_roundw
         case rel=>exact⟨j+1,by omega,by go_num,HC6,Zl,KZ⟩
         case measure=>simp[intOf];omega
       .have Zq:decide ((j:Int)<13)=false:=(by simp;omega);have ahA:j=13:=(by omega);subst ahA;have tj:Jm (λx=>if x=gone then kept else x) c 13=mW c a:=by
         unfold Jm;rw[uh HMr,drop_of_length_le (by omega),append_nil,take_of_length_le (by simp;omega)]
        rw[tj]at Zd;clear tj;go_wp2_with fail
        go_roundg (gk-1)
        case rel=>exact⟨k+1,by omega,by go_num,ab (by rw[uh cI];exact uh Zd),Zl,KZ⟩
        case measure=>omega
     .have aY:((a.k:Int) != 1)=true:=(by rw[bne_iff_ne];omega);have HMr:Hid (mW c a=c):=ab (by unfold mW;rw[if_neg LY]);clear LY;go_wp2_with fail
      go_roundg (gk-1)
      case rel=>exact⟨k+1,by omega,by go_num,ab (by rw[uh cI,uh HMr];exact uh ZW),Px,dS⟩
      case measure=>omega
    .have jk:decide ((k:Int)<(al.length:Int))=false:=(by simp;omega);have jz:k=al.length:=(by omega);subst jz;rw[take_length]at B0;have et:(mA al).length=13:=yN ht;have K1:Ob wr 236 13 C (mC (mA al)):=uh B0;have Zm:wr.rangeAt C 0 (mC (mA al)):=by
      intro j v hj;have fC:=(List.getElem?_eq_some_iff.1 hj).1;rw[ce,et]at fC;rw[Nat.zero_add,ownsRow.cellAt K1 j (by omega)];exact hj
     have zD:wr.there R 0 (mC (mA al)).toArray.size:=by
      intro j hj;rw[size_toArray,ce,et]at hj;obtain⟨⟨u,hu⟩,hz⟩:=(uh ww).some (j:=j) hj;rw[Nat.zero_add];exact⟨by rw[hu];rfl,hz⟩
     have dy:(prog.info? 236).map (·.size)=some (mC (mA al)).length:=(by rw[ce,et];exact info13);have bX:(prog.info? 236).map (·.size)=some (mC (mA al)).toArray.size:=(by rw[size_toArray,ce,et];exact info13);have hO:(mC (mA al)).toArray.all (·.oneCell')=true:=all_oneCell_toArray (by
      intro v hv;obtain⟨o,_,rfl⟩:=mem_map.1 hv;rfl)
     have s7:=Ob.setCells (mC (mA al)) 0 (uh ww);have Il:=ma (mC (mA al)) [] (mC (replicate 13 0)) [] (by rw[ce,ce,et];rfl);simp only[nil_append,append_nil,length_nil]at Il;rw[Il]at s7;have KZ:∀(vs:List Value) (o:Nat) (x:World),Below w.heap.size w x->Below w.heap.size w (x.setCells R o vs):=by
      intro vs;induction vs with
      |nil=>intro o x h;exact h
      |cons v r ih=>intro o x h;exact ih (o+1) _ (h.setCell V3 v)
     have j9:=ab (KZ (mC (mA al)) 0 wr (uh k9));obtain⟨M,hM⟩:∃M,M=mC (mA al):=⟨_,rfl⟩;rw[<-hM]at Zm zD dy bX hO s7 j9;have HM:=ab hM;have HRg:=ab Zm;have zO:=ab zD;have ep:=ab dy;have dJ:=ab bX;have HO:=ab hO;have GK:=ab s7;clear Zm zD dy bX hO s7 Il KZ hM K1 B0 ww k9;go_wp2_with (first|refine wpList_load_mid rfl 236 (.tmp 3) rfl C 0 rfl M _ (uh HRg) underlying236 rfl (uh ep) ?_|refine wpList_store_mid rfl 236 (.tmp 2) (.tmp 49) rfl R 0 M.toArray rfl rfl (uh zO) (uh dJ) (uh HO) ?_)
     have WS:(wr.setCells R 0 M).rangeAt R 0 M:=by
      intro j v hj;have fC:=(List.getElem?_eq_some_iff.1 hj).1;rw[uh HM,ce,et]at fC;rw[Nat.zero_add,ownsRow.cellAt (uh GK) j (by omega)];exact hj
     have hld:=run_loadVar_mid (P:=prog) (wr.setCells R 0 M) R 0 236 M _ WS underlying236 rfl (uh ep);refine bodyPost_ret (v:=.agg M.toArray) ?_ rfl ⟨by rw[uh HM],uh j9⟩;simp[results,Tryz.results151,Act.put,asAddr,hld]
