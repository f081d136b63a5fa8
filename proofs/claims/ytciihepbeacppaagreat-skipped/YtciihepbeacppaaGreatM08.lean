import Derived.Test.YtciihepbeacppaaGreatRG
import Derived.Laws.AppendOwnNone
import Derived.Laws.CopyOwn
import Derived.Deep.MidRow
import Derived.Deep.OwnRows
set_option maxRecDepth 100000
set_option maxHeartbeats 0
namespace Go.Proofs.YtciihepbeacppaaGreat
open _root_.Go.Proofs.Tryz Go.RowKit List World Below
set_option linter.unusedVariables false
def aeE(l:List ByteArray):Nat->Bool
 |0=>false
 |k+1=>aX (l[k]?.getD em) a6
def eC(c:Bool)(v:List ByteArray)(x:ByteArray):List ByteArray:=if c&&decide (amI v x<0) then v++[x] else v
def SQ(l:List ByteArray):Nat->List ByteArray
 |0=>[]
 |k+1=>eC (aK (l[k]?.getD em)&&!aeE l k) (SQ l k) (l[k]?.getD em)
def SP(l:List ByteArray):Nat->List ByteArray
 |0=>[]
 |k+1=>eC (k8 (l[k]?.getD em)) (SP l k) (l[k]?.getD em)
theorem Bg(x:ByteArray)(h:aK x=true):k8 x=false:=by
 obtain⟨c,rfl⟩:=kK x (by
  by_cases hs:x.size=1
  .exact hs
  .rw[q7 x hs]at h;cases h)
 rw[wn]at h;rw[JV];simp only[iX,l9]at *;simp at h ⊢;omega
def tq:ByteArray:=⟨#[105,102]⟩
def yA:ByteArray:=⟨#[119,104,105,108,101]⟩
def fE:ByteArray:=⟨#[59]⟩
def rE:ByteArray:=⟨#[101,108,115,101]⟩
def Zy:ByteArray:=⟨#[103,111,116,111]⟩
def gt(n:Nat):pE:=⟨Zy,em,em,em,n,false⟩
def WP(w:World)(v:Value)(sz n:Nat)(xs:List Value):Prop :=
 xs.length=n*sz/\n<=40000/\((v=.slice none 0 0/\n=0)\/∃g off cap,v=.slice (some ⟨g,off,none⟩) n cap/\n<=cap/\cap<=maxLen/\∀j u,xs[j]?=some u->w.cell? ⟨g,off+j,none⟩=some u)
theorem WP.below{w w':World}{v:Value}{sz n:Nat}{xs:List Value}(h:WP w v sz n xs)(hb:Below w.heap.size w w'):WP w' v sz n xs:=by
 obtain⟨h1,h2,h3⟩:=h;refine⟨h1,h2,?_⟩;rcases h3 with h3|⟨g,off,cap,hv,hn,hm,hc⟩
 .exact zq0 h3
 .exact zq1 ⟨g,off,cap,hv,hn,hm,λj u hj=>by rw[hb.cell (block_lt_of_cell? w _ (hc j u hj))];exact hc j u hj⟩
theorem WP.of_own{w:World}{B:Nat}{e:TypeId}{v:Value}{sz n:Nat}{xs:List Value}(h:w.ownsRow B e sz v n xs)(hn:n<=40000):WP w v sz n xs:=by
 have Dc:=λg hg=>h.cells (g:=g) hg;refine⟨h.1,hn,?_⟩;rcases h.2 with⟨rfl,h0⟩|⟨g,cap,cur,rfl,_,_,hn,hm,_,_⟩
 .exact zq0 ⟨rfl,h0⟩
 .refine zq1 ⟨g,0,cap,rfl,hn,hm,λj u hj=>?_⟩;have:=Dc g rfl j u hj;rw[show(⟨g,0,none⟩:Addr).add j=⟨g,0+j,none⟩ by unfold Addr.add;split <;> simp_all]at this;exact this
def Zf(ns:List ByteArray)(vs:List Int)(n:ByteArray):Option Int:=if aX n cC=true then some 0 else if Fu ns n<ns.length then some (vs.getD (Fu ns n) 0) else none
def clP(ad:List Int)(fr:List Bool)(a:Int):Nat->Bool:=λk=>fr.getD k false&&ad.getD k 0==a
def Md(ad:List Int)(fr:List Bool)(a:Int):Nat:=((range ad.length).find? (clP ad fr a)).getD ad.length
section
variable {P:Program} {w:World}
theorem nP {ops:Array Oper} {rest:List Oper} {o:Oper} {a:Act} {Q:Exit->Act->World->Prop}
  (hg:o.guard=none) (s x:Operand) (t:TypeId) (pq:o.op=Op.call { callee:=Callee.builtin Builtin.append,args:=#[s,x],argTypes:=#[t,t] })
  (base:Nat) (e:TypeId) (i:TypeInfo) (z:Value) (size bytes:Nat) (ht:P.underlying t=some (.slice e)) (hi:P.info? e=some i) (hz:i.zero=some z)
  (jQ:i.size=size) (FI:i.bytes=bytes) (Le:z.cells.size=size) (mO:0<size)
  (v:Value) (n:Nat) (xs:List Value) (hs:a.eval s=v) (aL:w.ownsRow base e size v n xs)
  (xv:Value) (m:Nat) (news:List Value) (hx:a.eval x=xv) (hL:WP w xv size m news) (h1:∀u∈news,u.oneCell'=true)
  (Ky:n+m<=1000000) (hb:bytes<=1000) (gI:base<=w.heap.size)
  (hK:∀v' w',w'.ownsRow base e size v' (n+m) (xs++news)->w.grownBy w' v.ownBlock->wpList P ops Q rest (a.put o.dst v') w') :
  wpList P ops Q (o::rest) a w:=by
 have hbytes:(n+m)*bytes<=140737488355328:=zq3 (Nat.mul_le_mul Ky hb) (by decide);obtain⟨hl,_,(⟨rfl,rfl⟩|⟨g,off,cap,rfl,hn,hm,hc⟩)⟩:=hL
 .have:news=[]:=eq_nil_of_length_eq_zero (by omega);subst this;refine wpList_append_own_none hg s x t pq base e i size ht hi v n xs hs aL hx ?_;exact hK v w (by simpa using aL) ⟨rfl,rfl,rfl,zq4 _,λ_ _ _=>rfl⟩
 .refine wpList_append_own w hg s x t pq base e i z size bytes ht hi hz jQ FI Le mO v n xs hs aL ⟨g,off,none⟩ m cap news hx hl (λj u hj=>?_) h1 (by unfold maxLen;omega) hbytes gI (λv' w' r1 r2 _=>hK v' w' r1 r2);rw[show(⟨g,off,none⟩:Addr).add j=⟨g,off+j,none⟩ by unfold Addr.add;split <;> simp_all];exact hc j u hj
end
theorem infoInt:(prog.info? 3).map (λi=>(i.zero,i.size,i.bytes))=some (some (.int .i64 0),1,8):=by kernel_rfl
def amz(ns:List ByteArray)(vs:List Int)(a:zV):Bool:=match Zf ns vs a.a,Zf ns vs a.b with|some x,some y=>(x==y) != aX a.k bS|_,_=>false
def oNm(ns:List ByteArray)(vs:List Int)(cur:ByteArray)(a:zV):ByteArray:=if (Zf ns vs a.b).isSome=false then a.b else if (Zf ns vs a.a).isSome=false then a.a else cur
def oN(ns:List ByteArray)(vs:List Int)(l:List zV):ByteArray:=l.foldl (oNm ns vs) em
def mst(vs:List Int):Int:=vs.foldl (λm v=>if m<v then v else m) 0
def oth(l:List zV):Nat->List ByteArray->List Int->Bool
 |0,_,_=>false
 |f+1,ns,vs=>if l.any (amz ns vs) then false else if aX (oN ns vs l) em then true else
  vs.any (λv=>oth l f (ns++[oN ns vs l]) (vs++[v]))||oth l f (ns++[oN ns vs l]) (vs++[0])||oth l f (ns++[oN ns vs l]) (vs++[mst vs+1])
def acc(ad nx:List Int)(C:List ByteArray->List Int->List Bool->Bool)(a:zV)(ns:List ByteArray)(vs:List Int):Nat->Int->List Bool->Bool
 |0,_,_=>false
 |m+1,v,fr =>
  if Md ad fr v<ad.length then
   let ok:=match Zf ns vs a.b with
    |none=>C (ns++[a.b]) (vs++[nx.getD (Md ad fr v) 0]) (fr.set (Md ad fr v) false)
    |some e=>(e==nx.getD (Md ad fr v) 0)&&C ns vs (fr.set (Md ad fr v) false)
   ok||(!aX a.k LQ&&acc ad nx C a ns vs m (nx.getD (Md ad fr v) 0) (fr.set (Md ad fr v) false))
  else false
def pki(ns:List ByteArray)(vs:List Int):List zV->Option Nat
 |[]=>none
 |a::r=>if (Zf ns vs a.a).isSome then some 0 else (pki ns vs r).map (·+1)
def XY(ns:List ByteArray)(vs:List Int)(pl:List zV)(j:Nat):Nat:=match pki ns vs (pl.drop j) with|some t=>j+t|none=>0
def ra0:zV:=⟨em,em,em⟩
def Y1(ad nx:List Int)(pu:List zV):Nat->List zV->List ByteArray->List Int->List Bool->Bool
 |0,_,ns,vs,fr=>!fr.any id&&oth pu (2*pu.length+1) ns vs
 |f+1,pl,ns,vs,fr =>
  match Zf ns vs (pl.getD (XY ns vs pl 0) ra0).a with
  |some v=>acc ad nx (Y1 ad nx pu f (pl.take (XY ns vs pl 0)++pl.drop (XY ns vs pl 0+1))) (pl.getD (XY ns vs pl 0) ra0) ns vs (fr.count true+1) v fr
  |none=>(range ad.length).any (λk=>fr.getD k false&&acc ad nx (Y1 ad nx pu f (pl.take (XY ns vs pl 0)++pl.drop (XY ns vs pl 0+1))) (pl.getD (XY ns vs pl 0) ra0) (ns++[(pl.getD (XY ns vs pl 0) ra0).a]) (vs++[ad.getD k 0]) (fr.count true+1) (ad.getD k 0) fr)
def beg(V T:CF)(an:List (Option Nat))(st:Int):SS:=⟨an,replicate V.ow.length none,V.ow.length,replicate T.ow.length false,st⟩
def Mc(V T:CF)(an:List (Option Nat))(st:Int):Bool × SS:=zC (wk V T (V.ow.length+1)) V T (beg V T an st) 0
def vw(F:CF)(l:List Pr):CF:=⟨F.cl,F.ap,l⟩
theorem D7{l:List Pr}{i:Nat}(hi:i<l.length)(x:Pr):(l.set i x).Perm (x::(l.take i++l.drop (i+1))):=by
 rw[set_eq_take_append_cons_drop,if_pos hi];exact perm_middle
theorem LL{l:List Pr}{i:Nat}(hi:i<l.length):l.Perm (l.getD i ay::(l.take i++l.drop (i+1))):=by
 have h1:=D7 hi (l.getD i ay);rwa [j7]at h1
theorem ace{y:rL}{T V:CF}(hT:Rm T)(hA:RmA T)(Sz:T.ow.length<=1000000)(hVl:V.ow.length<=1000000):∀m,WkC y T V m (wk V T m):=by
 intro m;induction m with
 |zero=>intro w s k at_ count _ _ h;omega
 |succ m ih=>exact LT hT hVl ih (wN hT hA Sz hVl ih)
def Sq(w:World)(q f t:Nat)(an:List (Option Nat))(st:Int):Prop :=
 ∃(mid:List Value) (vv ov uv pv:Value),Ob w 202 55 q (ie f t an++(mid++[vv,ov,uv,pv,.int .i64 st]))/\mid.length=24/\an.length=24
theorem Ob.some{w:World}{T n A:Nat}{xs:List Value}(h:Ob w T n A xs){j:Nat}(hj:j<n):(∃u,w.cell? ⟨A,j,none⟩=some u)/\w.frozen? ⟨A,j,none⟩=false:=by
 refine⟨?_,ownsRow.frozenAt h j⟩;have hl:j<xs.length:=by have:=h.1;omega
 exact⟨xs[j],by rw[ownsRow.cellAt h j (by omega)];simp[hl]⟩
theorem Ob.set{w:World}{T n A:Nat}{xs:List Value}(h:Ob w T n A xs)(j:Nat)(u:Value):Ob (w.setCell ⟨A,j,none⟩ u) T n A (xs.set j u):=(ownsRow.stored h j u).1
theorem Ob.alloc{w:World}{T n A:Nat}{xs:List Value}(h:Ob w T n A xs)(o:Obj):Ob (w.alloc o) T n A xs:=h.of_eq (heap_alloc _ _ _ (ownsRow.lt h _ rfl).2)
def VU(xs:List Value):Nat->List Value->List Value
 |_,[]=>xs
 |o,v::r=>VU (xs.set o v) (o+1) r
theorem Ob.setCells{T n A:Nat}:∀(vs:List Value) (o:Nat) {w:World} {xs:List Value},Ob w T n A xs->Ob (w.setCells A o vs) T n A (VU xs o vs):=by
 intro vs;induction vs with
 |nil=>intro o w xs h;exact h
 |cons v r ih=>intro o w xs h;exact ih (o+1) (h.set o v)
theorem nJ:∀(vs a mid c:List Value),mid.length=vs.length->VU (a++(mid++c)) a.length vs=a++(vs++c):=by
 intro vs;induction vs with
 |nil =>
  intro a mid c h;have:mid=[]:=eq_nil_of_length_eq_zero h;subst this;rfl
 |cons v r ih =>
  intro a mid c h;cases mid with
  |nil=>simp at h
  |cons m mid =>
   have h2:=ih (a++[v]) mid c (by simpa using h);simp only[VU];rw[set_append_right _ _ (zq4 _),Nat.sub_self];simp only[cons_append,set_cons_zero];have e1:a++v::(mid++c)=(a++[v])++(mid++c):=(by simp);have e2:a.length+1=(a++[v]).length:=(by simp);rw[e1,e2,h2];simp
theorem ar.setCells{F F':List Nat}{a:World}{b:Nat}(hb:b∈F):∀(vs:List Value) (o:Nat) {w:World},ar F a F' w->ar F a F' (w.setCells b o vs):=by
 intro vs;induction vs with
 |nil=>intro o w h;exact h
 |cons v r ih=>intro o w h;exact ih (o+1) (h.setCell (zq0 hb) v)
theorem lm{b k:Nat}(hk:k≠b):∀(vs:List Value) (o:Nat) (w:World),(w.setCells b o vs).heap[k]?=w.heap[k]?:=by
 intro vs;induction vs with
 |nil=>intro o w;rfl
 |cons v r ih=>intro o w;exact(ih (o+1) _).trans (heap_setCell _ _ _ _ hk)
theorem info24:(prog.info? 199).map (·.size)=some 24:=by kernel_rfl
theorem Kg {w:World} {q f t:Nat} {an:List (Option Nat)} {st:Int} {F T:CF} {l:List Pr} {fav fov tav tov lv:Value} (h:Sq w q f t an st) (hF:eP w f F fav fov) (hT:eP w t T tav tov) (hl:w.ownsRow 0 182 3 lv l.length (af l)) (yo:l.length<=1000000) (Sz:T.ow.length<=1000000)
  (hq:∀k,k∈aG f fav fov++(aG t tav tov++lv.ownBlock.toList)->k≠q) :
  Calls prog 176 #[.pointer (some ⟨q,0,none⟩),lv] w λe w'=>e=.returned (.tuple #[])/\∃v ov pv,Sw w' ⟨q,f,t,v,an,tav,tov,fav,lv,ov,pv⟩ T (vw F l) (beg (vw F l) T an st)/\ar [q] w (Fx q ov pv) w':=by
 obtain⟨mid,vv,ov0,uv,pv0,tf,K1,IA⟩:=h;have hq0:w.cell? ⟨q,0,none⟩=some (.pointer (some ⟨f,0,none⟩)):=by rw[ownsRow.cellAt tf 0 (by omega)];rfl
 have De:=hF.c5;have Mm:=hF.cls (i:=0) (by omega);have Uy:=hF.cls (i:=1) (by omega);have mJ:=hF.cls (i:=2) (by omega);have m6:=hF.cls (i:=3) (by omega);have AD:=hF.cls (i:=4) (by omega);unfold gZ at Mm Uy mJ m6 AD;obtain⟨n0,si⟩:∃x,x=F.cl.getD 0 0:=⟨_,rfl⟩;obtain⟨n1,kq⟩:∃x,x=F.cl.getD 1 0:=⟨_,rfl⟩;obtain⟨n2,xS⟩:∃x,x=F.cl.getD 2 0:=⟨_,rfl⟩;obtain⟨n3,vV⟩:∃x,x=F.cl.getD 3 0:=⟨_,rfl⟩;obtain⟨n4,Pw⟩:∃x,x=F.cl.getD 4 0:=⟨_,rfl⟩;rw[<-si]at Mm;rw[<-kq]at Uy;rw[<-xS]at mJ;rw[<-vV]at m6;rw[<-Pw]at AD;obtain⟨fao,fcap,aac⟩:=bC hF.ap;rw[aac]at De;have HN:Hid (n0=F.cl.getD 0 0/\n1=F.cl.getD 1 0/\n2=F.cl.getD 2 0/\n3=F.cl.getD 3 0/\n4=F.cl.getD 4 0):=ab ⟨si,kq,xS,vV,Pw⟩;clear si kq xS vV Pw;obtain⟨lao,lcap,it,agk,hln,-⟩:=dQ hl;have hlm:lcap<=9223372036854775807:=by unfold maxLen at agk;omega
 have hobA:∀o,Ob (w.alloc o) 202 55 q (ie f t an++(mid++[vv,ov0,uv,pv0,.int .i64 st])):=λo=>Ob.of_eq tf (heap_alloc _ _ _ (ownsRow.lt tf _ rfl).2);have alW:∀o,(w.alloc o).cell? ⟨q,50,none⟩=some vv:=λo=>by
  rw[ownsRow.cellAt (hobA o) 50 (by omega)];rw[getElem?_append_right (by simp[ie,aO,IA]),getElem?_append_right (by simp[ie,aO,IA,K1])];simp[ie,aO,IA,K1]
 have hfz:∀o j,(w.alloc o).frozen? ⟨q,j,none⟩=false:=λo j=>ownsRow.frozenAt (hobA o) j;have HF:=ab hF;have HT:=ab hT;have HL:=ab hl;have HQ:=ab hq;have Tg:=ab tf;have HLV:=ab it;have Yo:=ab aac;rw[it];clear hF hT hl hq tf hobA agk it aac;go_enter func176,ntmps176;go_wp2_with fail
 go_region
 obtain⟨X,hX⟩:∃X,X=ie f t an++(mid++[vv,ov0,uv,pv0,Value.int IntKind.i64 st]):=⟨_,rfl⟩;obtain⟨w1,zn⟩:∃w1,w1=((w.alloc (Obj.cells #[Value.int IntKind.i64 n0,Value.int IntKind.i64 n1,Value.int IntKind.i64 n2,Value.int IntKind.i64 n3,Value.int IntKind.i64 n4,Value.slice fao F.ap.length fcap,Value.slice lao l.length lcap] 179)).setCell ⟨q,50,none⟩ (Value.pointer (some ⟨w.heap.size,0,none⟩))).drew:=⟨_,rfl⟩;rw[<-zn];have hqs:q<w.heap.size:=(ownsRow.lt (uh Tg) _ rfl).2;have ZT:ar [q] w [q] w1:=by rw[zn];exact(((ar.refl [q] w).alloc _).setCell (zq0 (by simp)) _).drew
 have OP:Ob w1 202 55 q (X.set 50 (.pointer (some ⟨w.heap.size,0,none⟩))):=by
  rw[zn];have h1:=Ob.of_eq (uh Tg) (w':=w.alloc (Obj.cells #[Value.int IntKind.i64 n0,Value.int IntKind.i64 n1,Value.int IntKind.i64 n2,Value.int IntKind.i64 n3,Value.int IntKind.i64 n4,Value.slice fao F.ap.length fcap,Value.slice lao l.length lcap] 179)) (heap_alloc _ _ _ hqs);rw[<-hX]at h1;exact Ob.of_eq (ownsRow.stored h1 50 _).1 rfl
 have C8:∀k,k<w.heap.size->k≠q->w1.heap[k]?=w.heap[k]?:=λk hk aH=>ZT.block k hk (by simpa using aH);have ae5:eP w1 w.heap.size (vw F l) fav lv:=by
  refine⟨?_,?_,?_⟩
  .have h1:=ownsRow_lit (base:=0) (e:=179) (size:=7) w #[Value.int IntKind.i64 n0,Value.int IntKind.i64 n1,Value.int IntKind.i64 n2,Value.int IntKind.i64 n3,Value.int IntKind.i64 n4,Value.slice fao F.ap.length fcap,Value.slice lao l.length lcap] 1 (zq5 _) (by simp[maxLen]) rfl;have h2:Ob w1 179 7 w.heap.size [Value.int IntKind.i64 n0,Value.int IntKind.i64 n1,Value.int IntKind.i64 n2,Value.int IntKind.i64 n3,Value.int IntKind.i64 n4,Value.slice fao F.ap.length fcap,Value.slice lao l.length lcap]:=by
    refine Ob.of_eq h1 ?_;rw[zn];exact heap_setCell _ _ _ _ (by show w.heap.size≠q;omega)
   obtain⟨e0,e1,e2,e3,e4⟩:=uh HN;rw[<-uh Yo,<-uh HLV]at h2;unfold ji gZ;rw[show(vw F l).cl=F.cl from rfl,<-e0,<-e1,<-e2,<-e3,<-e4];exact h2
  .exact ae (uh HF).ap (λk hk=>C8 k ((uh HF).ap.lt k hk).2 (uh HQ k (by simp[aG,hk])))
  .exact ae (uh HL) (λk hk=>C8 k ((uh HL).lt k hk).2 (uh HQ k (by simp[hk])))
 have ae4:eP w1 t T tav tov:=(uh HT).of_eq (λk hk=>C8 k ((uh HT).lt k hk) (uh HQ k (by simp[hk])));have yG:=ab ae5;have B7:=ab ae4;have Yy:=ab ZT;obtain⟨X1,hX1⟩:∃X1,X1=X.set 50 (.pointer (some ⟨w.heap.size,0,none⟩)):=⟨_,rfl⟩;rw[<-hX1]at OP;have HX1:=ab hX1;have HX:=ab hX;have S9:=ab OP;obtain⟨⟨u52,amh⟩,amv⟩:=OP.some (j:=52) (by omega);have afd:=OP.set 52 (.int .i64 (l.length:Int));have hmk:=run_make_row' (P:=prog) 29 3 (.int .i64 0) 8 underlying29 infoInt rfl .i64 .i64 l.length (by omega) (by omega);obtain⟨⟨u51,amg⟩,amu⟩:=(afd.alloc (.cells (madeCells #[.int .i64 0] l.length) 3)).some (j:=51) (by omega);clear ae5 ae4 ZT hX1 hX OP afd C8 hq0 De Mm Uy mJ m6 AD alW hfz;have YE:=ab zn;clear zn;go_wp2_with fail
 obtain⟨O,hO⟩:∃O,O=w1.heap.size:=⟨_,rfl⟩;obtain⟨w3,IK⟩:∃w3,w3=((w1.setCell ⟨q,52,none⟩ (.int .i64 (l.length:Int))).alloc (.cells (madeCells #[Value.int .i64 0] l.length) 3)).setCell ⟨q,51,none⟩ (.slice (some ⟨w1.heap.size,0,none⟩) l.length l.length):=⟨_,rfl⟩;rw[<-IK,<-hO];have hqO:q<O:=by rw[hO];exact zq6 hqs (uh Yy).size
 have Iy:ar [q] w1 [q] w3:=by rw[IK];exact(((ar.refl [q] w1).setCell (zq0 (by simp)) _).alloc _).setCell (zq0 (by simp)) _
 have afm:ar [q] w [q] w3:=(uh Yy).trans Iy;have afe:Ob w3 202 55 q ((X1.set 52 (.int .i64 (l.length:Int))).set 51 (.slice (some ⟨O,0,none⟩) l.length l.length)):=by
  rw[IK,hO];exact(((uh S9).set 52 _).alloc _).set 51 _
 have XG:w3.ownsRow 0 3 1 (.slice (some ⟨O,0,none⟩) l.length l.length) l.length (replicate l.length (.int .i64 0)):=by
  have h1:=ownsRow_lit (base:=0) (e:=3) (size:=1) (w1.setCell ⟨q,52,none⟩ (.int .i64 (l.length:Int))) (madeCells #[Value.int .i64 0] l.length) l.length (zq5 _) (by simp[maxLen];omega) (by simp[madeCells]);rw[toList_madeCells_one]at h1;have e:(w1.setCell ⟨q,52,none⟩ (.int .i64 (l.length:Int))).heap.size=O:=by rw[hO];simp
  rw[e]at h1;refine ae h1 (λk hk=>?_);cases hk
  rw[IK];exact heap_setCell _ _ _ _ (by show O≠q;omega)
 have asb:w3.heap.size=O+1:=by rw[IK,hO];simp
 have asn:w.heap.size<O:=by
  have:=(uh yG).lt w.heap.size (by simp[aG]);rw[hO];exact this
 have Xf:eP w3 w.heap.size (vw F l) fav lv:=(uh yG).of_eq (λk hk=>Iy.block k ((uh yG).lt k hk) (by
  simp only[mem_singleton];simp only[aG,mem_cons,mem_append,Option.mem_toList]at hk;rcases hk with rfl|hk|hk
  .omega
  .exact uh HQ k (by simp[aG,hk])
  .exact uh HQ k (by simp[hk])))
 have Xe:eP w3 t T tav tov:=(uh B7).of_eq (λk hk=>Iy.block k ((uh B7).lt k hk) (by
  simp only[mem_singleton];exact uh HQ k (by simp[hk])))
 have HV3:=ab Xf;have uZ:=ab Xe;have aj0:=ab afm;have HO3:=ab afe;have L4:=ab XG;have HO:=ab hO;clear Xf Xe afm Iy afe XG hO IK amh amv amg amu hmk YE B7 yG S9 Yy;go_loopw [4] (λi wr=>∃k:Nat,k<=l.length/\i=.int .i64 k/\Hid (wr.ownsRow 0 3 1 (.slice (some ⟨O,0,none⟩) l.length l.length) l.length (replicate k (.int .i64 (-1))++replicate (l.length-k) (.int .i64 0)))/\Hid (ar [O] w3 [O] wr)) (λi _=>l.length-(intOf i).toNat)
 case atStart=>exact⟨0,zq5 _,rfl,ab (by simpa using uh L4),ab (ar.refl _ _)⟩
 case round =>
  obtain⟨k,hk,rfl,bp,aP⟩:=hrel;have KD:Ob wr 202 55 q ((X1.set 52 (.int .i64 (l.length:Int))).set 51 (.slice (some ⟨O,0,none⟩) l.length l.length)):=(uh HO3).of_eq ((uh aP).block q (by omega) (by simp;omega));have ard:X1.length=55:=by
   have h1:=(uh HO3).1;simp only[length_set]at h1;omega
  have h51:wr.cell? ⟨q,51,none⟩=some (.slice (some ⟨O,0,none⟩) l.length l.length):=by
   rw[ownsRow.cellAt KD 51 (by omega),getElem?_set_self (by simp;omega)]
  by_cases au:k<l.length
  .have SB:wr.cell? ⟨O,k,none⟩=some (.int .i64 0):=by
    rw[(uh bp).cellAt k (by omega),getElem?_append_right (by simp),length_replicate,Nat.sub_self,getElem?_replicate,if_pos (by omega)]
   have O8:=(uh bp).frozenAt k;have iF:=((uh bp).stored k (.int .i64 (-1))).1;have e:(replicate k (Value.int .i64 (-1))++replicate (l.length-k) (Value.int .i64 0)).set k (Value.int .i64 (-1))=replicate (k+1) (Value.int .i64 (-1))++replicate (l.length-(k+1)) (Value.int .i64 0):=by
    rw[set_append_right k _ (by simp)];simp only[length_replicate,Nat.sub_self];rw[show l.length-k=(l.length-(k+1))+1 by omega,replicate_succ,set_cons_zero,replicate_succ',append_assoc];rfl
   rw[e]at iF;have ajN:=ab iF;have HSt:=ab ((uh aP).setCell (p:=⟨O,k,none⟩) (zq0 (by simp)) (.int .i64 (-1)));clear iF KD bp aP;go_wp2_with fail
   go_roundw
   case rel=>exact⟨k+1,by omega,by go_num,ajN,HSt⟩
   case measure=>simp[intOf];omega
  .have hd:decide ((k:Int)<(l.length:Int))=false:=(by simp;omega);have gJ:k=l.length:=(by omega);subst gJ;have hq1:wr.cell? ⟨q,1,none⟩=some (.pointer (some ⟨t,0,none⟩)):=by
    rw[ownsRow.cellAt KD 1 (by omega),getElem?_set_ne (by omega),getElem?_set_ne (by omega),uh HX1,getElem?_set_ne (by omega),uh HX];rfl
   have Iw:eP wr t T tav tov:=(uh uZ).of_eq (λk hk=>(uh aP).block k ((uh uZ).lt k hk) (by
    simp only[mem_singleton];rintro rfl;have:=(uh HT).lt _ hk;omega))
   have KJ:=Iw.c6;obtain⟨tao,tcap,pT,agS,XJ,-⟩:=dQ Iw.ow;have htm:tcap<=9223372036854775807:=(by unfold maxLen at agS;omega);rw[pT]at KJ;have hmk:=run_make_row' (P:=prog) 200 4 (.bool false) 1 underlying200 infoBool rfl .i64 .i64 T.ow.length (by omega) (by omega);obtain⟨⟨u53,asi⟩,asv⟩:=(KD.alloc (.cells (madeCells #[.bool false] T.ow.length) 4)).some (j:=53) (by omega);have aqw:=ab pT;have HTr:=ab Iw;have Uq:=(KD.alloc (.cells (madeCells #[Value.bool false] T.ow.length) 4)).set 53 (Value.slice (some ⟨wr.heap.size,0,none⟩) T.ow.length T.ow.length);have OV:((wr.alloc (.cells (madeCells #[Value.bool false] T.ow.length) 4)).setCell ⟨q,53,none⟩ (Value.slice (some ⟨wr.heap.size,0,none⟩) T.ow.length T.ow.length)).rangeAt q 2 (a9 an):=by
    intro j v hj;have alt:j<24:=by
     have:=(List.getElem?_eq_some_iff.1 hj).1;rw[aO,IA]at this;exact this
    rw[ownsRow.cellAt Uq (2+j) (by omega),getElem?_set_ne (by omega),getElem?_set_ne (by omega),getElem?_set_ne (by omega),uh HX1,getElem?_set_ne (by omega),uh HX];rw[getElem?_append_left (by simp[ie,aO];omega)];unfold ie;rw[getElem?_append_right (by simp)];simpa[show 2+j-2=j by omega] using hj
   have OZ:((wr.alloc (.cells (madeCells #[Value.bool false] T.ow.length) 4)).setCell ⟨q,53,none⟩ (Value.slice (some ⟨wr.heap.size,0,none⟩) T.ow.length T.ow.length)).there q 26 (a9 an).toArray.size:=by
    intro j hj;have alt:j<24:=(by simpa[aO,IA] using hj);obtain⟨⟨u,hu⟩,hz⟩:=Uq.some (j:=26+j) (by omega);exact⟨by rw[hu];rfl,hz⟩
   have vL:=Ob.setCells (a9 an) 26 Uq;have ae3:(prog.info? 199).map (·.size)=some (a9 an).length:=(by rw[aO,IA];exact info24);have Xd:(prog.info? 199).map (·.size)=some (a9 an).toArray.size:=(by rw[size_toArray,aO,IA];exact info24);have afh:(a9 an).toArray.all (·.oneCell')=true:=all_oneCell_toArray (by
    intro v hv;obtain⟨o,_,rfl⟩:=mem_map.1 hv;rfl)
   have HR:=ab OV;have CB:=ab OZ;have HI:=ab ae3;have eo:=ab Xd;have ad7:=ab afh;have J6:=ab vL;obtain⟨AN,hAN⟩:∃AN,AN=a9 an:=⟨_,rfl⟩;rw[<-hAN]at HR CB HI eo ad7 J6;have Yc:=ab hAN;clear pT KD Iw agS Uq OV OZ ae3 Xd afh vL hAN;go_wp2_with (first|refine wpList_load_mid rfl 199 (.tmp 66) rfl q 2 rfl AN _ (uh HR) underlying199 rfl (uh HI) ?_|refine wpList_store_mid rfl 199 (.tmp 69) (.tmp 67) rfl q 26 AN.toArray rfl rfl (uh CB) (uh eo) (uh ad7) ?_)
   go_end0
   rw[<-uh HLV];have UM:(ie f t an).length=26:=(by simp[ie,aO,IA]);have hL3:O<wr.heap.size:=(by have:=(uh aP).size;omega);have hobF:Ob (((wr.alloc (Obj.cells (madeCells #[Value.bool false] T.ow.length) 4)).setCell ⟨q,53,none⟩ (Value.slice (some ⟨wr.heap.size,0,none⟩) T.ow.length T.ow.length)).setCells q 26 AN) 202 55 q (nG f t w.heap.size an (beg (vw F l) T an st) (.slice (some ⟨O,0,none⟩) l.length l.length) (.slice (some ⟨wr.heap.size,0,none⟩) T.ow.length T.ow.length)):=by
    have h5:=uh J6;rw[uh HX1,uh HX]at h5;have cS:∀(tl:List Value) (j:Nat) (u:Value),(ie f t an++(mid++tl)).set (50+j) u=ie f t an++(mid++tl.set j u):=by
     intro tl j u;rw[set_append_right _ _ (by omega),UM,set_append_right _ _ (by omega),K1,show 50+j-26-24=j by omega]
    have s0:=cS [vv,ov0,uv,pv0,Value.int IntKind.i64 st] 0 (.pointer (some ⟨w.heap.size,0,none⟩));have s1:=cS [.pointer (some ⟨w.heap.size,0,none⟩),ov0,uv,pv0,Value.int IntKind.i64 st] 2 (.int .i64 (l.length:Int));have s2:=cS [.pointer (some ⟨w.heap.size,0,none⟩),ov0,.int .i64 (l.length:Int),pv0,Value.int IntKind.i64 st] 1 (.slice (some ⟨O,0,none⟩) l.length l.length);have s3:=cS [.pointer (some ⟨w.heap.size,0,none⟩),.slice (some ⟨O,0,none⟩) l.length l.length,.int .i64 (l.length:Int),pv0,Value.int IntKind.i64 st] 3 (Value.slice (some ⟨wr.heap.size,0,none⟩) T.ow.length T.ow.length);simp only[set_cons_zero,set_cons_succ,Nat.add_zero,Nat.reduceAdd]at s0 s1 s2 s3;rw[s0,s1,s2,s3,show(26:Nat)=(ie f t an).length from UM.symm,nJ AN (ie f t an) mid _ (by rw[uh Yc,aO];omega)]at h5;rw[show 26=(ie f t an).length from UM.symm];rw[uh Yc]at h5 ⊢;exact h5
   obtain⟨w5,hw5⟩:∃w5,w5=(((wr.alloc (Obj.cells (madeCells #[Value.bool false] T.ow.length) 4)).setCell ⟨q,53,none⟩ (Value.slice (some ⟨wr.heap.size,0,none⟩) T.ow.length T.ow.length)).setCells q 26 AN):=⟨_,rfl⟩;rw[<-hw5]at hobF ⊢;have iA:∀k,k<wr.heap.size->k≠q->w5.heap[k]?=wr.heap[k]?:=by
    intro k hk aH;rw[hw5,lm aH,heap_setCell _ _ _ _ aH,heap_alloc _ _ _ hk]
   have Az:∀k,k<O->k≠q->w5.heap[k]?=w3.heap[k]?:=λk hk aH=>(iA k (by omega) aH).trans ((uh aP).block k (by omega) (by simp;omega));have iE:∀k,k∈aG t tav tov->k<w.heap.size/\k≠q:=λk hk=>⟨(uh HT).lt k hk,uh HQ k (by simp[hk])⟩;have Ps:∀k,k∈aG w.heap.size fav lv->k<=w.heap.size/\k≠q:=by
    intro k hk;simp only[aG,mem_cons,mem_append,Option.mem_toList]at hk;rcases hk with rfl|hk|hk
    .exact⟨zq4 _,by omega⟩
    .exact⟨Nat.le_of_lt ((uh HF).ap.lt k hk).2,uh HQ k (by simp[aG,hk])⟩
    .exact⟨Nat.le_of_lt ((uh HL).lt k hk).2,uh HQ k (by simp[hk])⟩
   refine⟨rfl,w.heap.size,.slice (some ⟨O,0,none⟩) l.length l.length,.slice (some ⟨wr.heap.size,0,none⟩) T.ow.length T.ow.length,⟨hobF,IA,IA,?_,?_,?_,?_,?_,?_,?_⟩,?_⟩
   .have h1:=uh bp;rw[Nat.sub_self]at h1;simp only[replicate_zero,append_nil]at h1;have h2:(beg (vw F l) T an st).ot=replicate l.length none:=rfl;rw[h2];simp only[a9,map_replicate,length_replicate];exact ae h1 (λk hk=>by cases hk;exact iA O hL3 (by omega))
   .have h1:=ownsRow_lit (base:=0) (e:=4) (size:=1) wr (madeCells #[Value.bool false] T.ow.length) T.ow.length (zq5 _) (by simp[maxLen];omega) (by simp[madeCells]);rw[toList_madeCells_one]at h1;have h2:(beg (vw F l) T an st).pl=replicate T.ow.length false:=rfl;rw[h2];simp only[map_replicate,length_replicate];refine ae h1 (λk hk=>?_);cases hk
    have aH:wr.heap.size≠q:=(by omega);rw[hw5,lm aH];exact heap_setCell _ _ _ _ aH
   .show [q,O,wr.heap.size].Nodup;simp;omega
   .exact(uh uZ).of_eq (λk hk=>Az k (by have:=(iE k hk).1;omega) (iE k hk).2)
   .exact(uh HV3).of_eq (λk hk=>Az k (by have:=(Ps k hk).1;omega) (Ps k hk).2)
   .intro k hk;have:=iE k hk;show k ∉ [q,O,wr.heap.size];simp;omega
   .intro k hk;have:=Ps k hk;show k ∉ [q,O,wr.heap.size];simp;omega
   .have h1:=uh aj0;have h2:=uh aP;have h3:ar [q] wr [q] w5:=(by rw[hw5];exact ar.setCells (by simp) _ _ (((ar.refl [q] wr).alloc _).setCell (zq0 (by simp)) _));refine⟨h3.os.trans (h2.os.trans h1.os),h3.tape.trans (h2.tape.trans h1.tape),h3.output.trans (h2.output.trans h1.output),zq3 h1.size (zq3 h2.size h3.size),λk hk hF=>?_,λk hk=>?_⟩
    .have aH:k≠q:=(by simpa using hF);exact(Az k (by omega) aH).trans (h1.block k hk hF)
    .have ED:k∈[q,O,wr.heap.size]:=hk;simp at ED;simp;omega
theorem YZ{V T:CF}{an:List (Option Nat)}{st:Int}(IA:an.length=24):Wf V T (beg V T an st)/\(uP (beg V T an st)).length+0=T.ow.length:=by
 have EH:uP (beg V T an st)=range T.ow.length:=by
  unfold uP beg;simp only[length_replicate];rw[filter_eq_self];intro k hk;have:=mem_range.1 hk;simp[getD_eq_getElem?_getD,this]
 have lQ:sX (beg V T an st)=range V.ow.length:=by
  unfold sX beg;simp only[length_replicate];rw[filter_eq_self];intro k hk;have:=mem_range.1 hk;simp[getD_eq_getElem?_getD,this]
 exact⟨⟨by simp[beg],by simp[beg],IA,by rw[lQ];simp[beg]⟩,by rw[EH];simp⟩
structure Se(w:World)(q f t:Nat)(an:List (Option Nat))(F T:CF)(fav fov tav tov:Value)(st:Int):Prop where
 sq:Sq w q f t an st
 ff:eP w f F fav fov
 ft:eP w t T tav tov
 nf:∀k∈aG f fav fov,k≠q
 nt:∀k∈aG t tav tov,k≠q
theorem Oq{w:World}{q f t:Nat}{an:List (Option Nat)}{st:Int}{F T:CF}{l:List Pr}{fav fov tav tov lv:Value}(h:Se w q f t an F T fav fov tav tov st)(hl:w.ownsRow 0 182 3 lv l.length (af l))(hlq:∀k,lv.ownBlock=some k->k≠q)(yo:l.length<=1000000)(Sz:T.ow.length<=1000000)(hR:Rm T)(hA:RmA T):
  Calls prog 153 #[.pointer (some ⟨q,0,none⟩),lv] w λe w'=>e=.returned (.bool (Mc (vw F l) T an st).1)/\∃v ov pv,Sw w' ⟨q,f,t,v,an,tav,tov,fav,lv,ov,pv⟩ T (vw F l) (Mc (vw F l) T an st).2/\ar [q] w (Fx q ov pv) w'/\(∀k∈Fx q ov pv,k=q\/w.heap.size<=k):=by
 have HB:=ab (Kg h.sq h.ff h.ft hl yo Sz (λk hk=>by
  simp only[mem_append,Option.mem_toList]at hk;rcases hk with hk|hk|hk
  .exact h.nf k hk
  .exact h.nt k hk
  .exact hlq k hk))
 have IA:an.length=24:=by obtain⟨_,_,_,_,_,_,_,h2⟩:=h.sq;exact h2
 have HP:=ab (λy=>wN (y:=y) (T:=T) (V:=vw F l) hR hA Sz yo (m:=l.length+1) (ace hR hA Sz yo _));obtain⟨hwf,EH⟩:=YZ (V:=vw F l) (T:=T) (an:=an) (st:=st) IA;have HW:=ab hwf;have HU:=ab EH;clear h hl hlq hwf EH;go_enter func153,ntmps153;go_wp2_with fail
 refine(uh HB).mono ?_;rintro e w1 ⟨rfl,v,ov,pv,bT,mY⟩;have cH:=ab bT;have B7:=ab mY;clear bT mY;go_wp2_with fail
 refine(uh HP ⟨q,f,t,v,an,tav,tov,fav,lv,ov,pv⟩ w1 (beg (vw F l) T an st) 0 (uh cH) (uh HW) (by show l.length<l.length+1;omega) (uh HU)).mono ?_;rintro e w2 ⟨rfl,bY,hT2⟩;have dg:=ab bY;have Hb:=ab hT2;clear bY hT2;go_wp2_with fail
 go_ret;refine⟨rfl,v,ov,pv,uh dg,(uh B7).trans (uh Hb),λk hk=>?_⟩;rcases(uh B7).foot k hk with h1|h1
 .exact zq0 (by simpa using h1)
 .exact zq1 h1
theorem mi{l:List Pr}{i:Nat}(hi:i<l.length)(k:Nat):(af l).set (i*3) (.int .i64 (k:Int))=af (l.set i ⟨k,(l.getD i ay).l,(l.getD i ay).r⟩):=by
 induction l generalizing i with
 |nil=>simp at hi
 |cons x l ih =>
  have hx:∀y:Pr,af (y::l)=[Value.int .i64 y.k,.int .i64 y.l,.int .i64 y.r]++af l:=λy=>rfl;cases i with
  |zero=>rw[hx,set_cons_zero,hx];rfl
  |succ i =>
   have h1:=ih (i:=i) (by simpa using hi);rw[hx,set_append_right _ _ (by simp;omega),set_cons_succ];show _=[Value.int .i64 x.k,.int .i64 x.l,.int .i64 x.r]++af _;rw[show(i+1)*3 - [Value.int .i64 (x.k:Int),.int .i64 (x.l:Int),.int .i64 (x.r:Int)].length=i*3 by simp;omega,h1];rfl
theorem fx{l:List Pr}{i:Nat}(hi:i<l.length)(r:Nat):(af l).set (i*3+2) (.int .i64 (r:Int))=af (l.set i ⟨(l.getD i ay).k,(l.getD i ay).l,r⟩):=by
 induction l generalizing i with
 |nil=>simp at hi
 |cons x l ih =>
  have hx:∀y:Pr,af (y::l)=[Value.int .i64 y.k,.int .i64 y.l,.int .i64 y.r]++af l:=λy=>rfl;cases i with
  |zero=>rw[hx,set_cons_zero,hx];rfl
  |succ i =>
   have h1:=ih (i:=i) (by simpa using hi);rw[hx,set_append_right _ _ (by simp;omega),set_cons_succ];show _=[Value.int .i64 x.k,.int .i64 x.l,.int .i64 x.r]++af _;rw[show(i+1)*3+2 - [Value.int .i64 (x.k:Int),.int .i64 (x.l:Int),.int .i64 (x.r:Int)].length=i*3+2 by simp;omega,h1];rfl
theorem nE(l:List Pr):∀u∈af l,u.oneCell'=true:=by
 intro u hu;simp only[af,mem_flatMap]at hu;obtain⟨a,_,ha⟩:=hu;simp only[VJ,mem_cons,not_mem_nil,or_false]at ha;rcases ha with rfl|rfl|rfl <;> rfl
theorem infoPair:(prog.info? 182).map (λi=>(i.zero,i.size,i.bytes))=some (some (.agg #[.int .i64 0,.int .i64 0,.int .i64 0]),3,24):=by kernel_rfl
theorem eP.below{w w':World}{A:Nat}{f:CF}{av ov:Value}(h:eP w A f av ov)(hb:Below w.heap.size w w'):eP w' A f av ov:=h.of_eq (λk hk=>hb.block k (h.lt k hk))
theorem aht{w w':World}{B:Nat}{e:TypeId}{sz n:Nat}{v:Value}{xs:List Value}(h:w.ownsRow B e sz v n xs)(hb:Below w.heap.size w w'):w'.ownsRow B e sz v n xs:=ae h (λk hk=>hb.block k (h.lt k hk).2)
theorem ar.blk{q:Nat}{w w':World}{F:List Nat}(h:ar [q] w F w'):∀k,k<w.heap.size->k≠q->w'.heap[k]?=w.heap[k]?:=λk hk aH=>h.block k hk (by simpa using aH)
def Ap(F T:CF):List Nat->List (Option Nat)->Option (List (Option Nat))
 |[],an=>some an
 |i::r,an=>if an.getD (T.cl.getD i 0) none≠none/\an.getD (T.cl.getD i 0) none≠some (F.cl.getD i 0) then none else Ap F T r (an.set (T.cl.getD i 0) (some (F.cl.getD i 0)))
def tm(a:ci):Pr:=⟨a.k,xt a.lk a.li,xt a.rk a.ri⟩
def vm(al:List ci):Prop:=∀a∈al,(tm a).l<13/\(tm a).r<13
theorem Oz{f:Nat->Nat}{c:List Nat}{i:Nat}(h:i<c.length):(c.map f).getD i 0=f (c.getD i 0):=by simp[h]
theorem Bq:∀(al:List ci) (c:List Nat),vm al->c.length=13->(∀i,i<13->c.getD i 0<13)->(al.foldl oZ c).length=13/\∀i,i<13->(al.foldl oZ c).getD i 0<13:=by
 intro al;induction al with
 |nil=>intro c _ h1 h2;exact⟨h1,h2⟩
 |cons a al ih =>
  intro c ht h1 h2;rw[foldl_cons];have Lc:=ht a (by simp);have ht':vm al:=λb hb=>ht b (by simp[hb]);unfold oZ;split
  .refine ih _ ht' (by simpa using h1) (λi hi=>?_);rw[Oz (by omega)];split
   .exact h2 _ Lc.1
   .exact h2 i hi
  .exact ih _ ht' h1 h2
theorem BE(i:Nat)(h:i<13):(range 13).getD i 0=i:=by simp[h]
theorem Br{al:List ci}(ht:vm al):(nz al).length=13:=(Bq al _ ht (by simp) (λi hi=>by rw[BE i hi];exact hi)).1
theorem Bs{al:List ci}(ht:vm al){i:Nat}(hi:i<13):(nz al).getD i 0<13:=(Bq al _ ht (by simp) (λi hi=>by rw[BE i hi];exact hi)).2 i hi
theorem Hy{al:List ci}{i:Nat}(hi:i<5):(bW al).cl.getD i 0=(nz al).getD i 0:=by
 simp only[bW,getD_eq_getElem?_getD];rw[getElem?_take_of_lt hi]
theorem NR{F T:CF}(hT:∀i,i<5->T.cl.getD i 0<24):∀{is:List Nat} {an an':List (Option Nat)},(∀i∈is,i<5)->an.length=24->Ap F T is an=some an' ->
  an'.length=24/\(∀c a,an.getD c none=some a->an'.getD c none=some a)/\(∀i∈is,an'.getD (T.cl.getD i 0) none=some (F.cl.getD i 0))/\(∀c a,an'.getD c none=some a->an.getD c none=some a\/∃i∈is,a=F.cl.getD i 0):=by
 intro is;induction is with
 |nil=>intro an an' _ h h2;cases h2;exact⟨h,λ_ _ h=>h,λi hi=>(by cases hi),λc a h=>zq0 h⟩
 |cons i is ih =>
  intro an an' his h h2;simp only[Ap]at h2;by_cases h0:an.getD (T.cl.getD i 0) none≠none/\an.getD (T.cl.getD i 0) none≠some (F.cl.getD i 0)
  .rw[if_pos h0]at h2;cases h2
  .rw[if_neg h0]at h2;obtain⟨g1,g2,g3,g4⟩:=ih (λj hj=>his j (by simp[hj])) (by simpa using h) h2;have cS:∀c,(an.set (T.cl.getD i 0) (some (F.cl.getD i 0))).getD c none=if T.cl.getD i 0=c then some (F.cl.getD i 0) else an.getD c none:=λc=>dq _ _ _ _ _ (by rw[h];exact hT i (his i (by simp)))
   refine⟨g1,λc a hc=>g2 c a ?_,λj hj=>?_,λc a hc=>?_⟩
   .rw[cS];by_cases e:T.cl.getD i 0=c
    .rw[if_pos e];subst e;by_cases e2:a=F.cl.getD i 0
     .rw[e2]
     .exact absurd ⟨by rw[hc];simp,by rw[hc];simpa using e2⟩ h0
    .rw[if_neg e];exact hc
   .rcases mem_cons.1 hj with rfl|hj
    .exact g2 _ _ (by rw[cS,if_pos rfl])
    .exact g3 j hj
   .rcases g4 c a hc with h5|⟨j,hj,h5⟩
    .rw[cS]at h5;by_cases e:T.cl.getD i 0=c
     .rw[if_pos e]at h5;cases h5;exact zq1 ⟨i,by simp,rfl⟩
     .rw[if_neg e]at h5;exact zq0 h5
    .exact zq1 ⟨j,by simp[hj],h5⟩
theorem mg(k i:Nat)(hk:k<=2)(hi:i<=1000)(w:World):Calls prog 152 #[.agg #[.int .i64 k,.int .i64 i]] w λe w'=>e=.returned (.int .i64 (xt k i:Nat))/\Below w.heap.size w w':=by
 have Dg:k=0\/k=1\/k=2:=by omega
 have hb:=(Below.refl w.heap.size w).alloc (zq4 _) (.cells #[Value.int .i64 k,.int .i64 i] 184);have HB:=ab hb;clear hb;rcases Dg with rfl|rfl|rfl
 .go_enter func152,ntmps152;go_wp2_with fail
  go_ret;exact⟨rfl,uh HB⟩
 .go_enter func152,ntmps152;go_wp2_with fail
  go_ret;exact⟨bi (by unfold xt;rw[if_pos rfl];omega),uh HB⟩
 .go_enter func152,ntmps152;go_wp2_with fail
  go_ret;exact⟨bi (by unfold xt;rw[if_neg (by decide),if_pos rfl];omega),uh HB⟩
theorem YX{l:List ci}{k:Nat}(h:k<l.length):(bN l)[k*5]?=some (.int .i64 l[k].k)/\(bN l)[k*5+1]?=some (.int .i64 l[k].lk)/\(bN l)[k*5+2]?=some (.int .i64 l[k].li)/\(bN l)[k*5+3]?=some (.int .i64 l[k].rk)/\(bN l)[k*5+4]?=some (.int .i64 l[k].ri):=by
 induction l generalizing k with
 |nil=>simp at h
 |cons x l ih =>
  have hx:bN (x::l)=[Value.int .i64 x.k,.int .i64 x.lk,.int .i64 x.li,.int .i64 x.rk,.int .i64 x.ri]++bN l:=rfl;cases k with
  |zero=>rw[hx];simp
  |succ k =>
   have:=ih (k:=k) (by simpa using h);rw[hx,show(k+1)*5=k*5+5 by omega];simp only[getElem_cons_succ];refine⟨?_,?_,?_,?_,?_⟩
   .rw[getElem?_append_right (by simp)];simpa using this.1
   .rw[getElem?_append_right (by simp)];simpa[show k*5+5+1-5=k*5+1 by omega] using this.2.1
   .rw[getElem?_append_right (by simp)];simpa[show k*5+5+2-5=k*5+2 by omega] using this.2.2.1
   .rw[getElem?_append_right (by simp)];simpa[show k*5+5+3-5=k*5+3 by omega] using this.2.2.2.1
   .rw[getElem?_append_right (by simp)];simpa[show k*5+5+4-5=k*5+4 by omega] using this.2.2.2.2
theorem nS{w:World}{B:Nat}{v:Value}{l:List ci}(h:w.ownsRow B 239 5 v l.length (bN l)):
  ∃ao cap,v=.slice ao l.length cap/\cap<=9223372036854775807/\l.length<=cap/\(l≠[]->∃g,ao=some ⟨g,0,none⟩/\g<w.heap.size/\∀j,(h:j<l.length)->w.cell? ⟨g,j*5,none⟩=some (.int .i64 l[j].k)/\w.cell? ⟨g,j*5+1,none⟩=some (.int .i64 l[j].lk)/\w.cell? ⟨g,j*5+2,none⟩=some (.int .i64 l[j].li)/\w.cell? ⟨g,j*5+3,none⟩=some (.int .i64 l[j].rk)/\w.cell? ⟨g,j*5+4,none⟩=some (.int .i64 l[j].ri)):=by
 have hw:=h;rcases h.2 with⟨rfl,h0⟩|⟨g,cap,cur,rfl,_,_,hn,hm,_,_⟩
 .have:l=[]:=eq_nil_of_length_eq_zero h0;subst this;exact⟨_,_,rfl,by omega,by simp,λh=>absurd rfl h⟩
 .refine⟨_,_,rfl,by unfold maxLen at hm;omega,hn,λ_=>⟨g,rfl,(hw.lt g rfl).2,λj hj=>?_⟩⟩;have hg:=YX hj;exact⟨(hw.cellAt _ (by omega)).trans hg.1,(hw.cellAt _ (by omega)).trans hg.2.1,(hw.cellAt _ (by omega)).trans hg.2.2.1,(hw.cellAt _ (by omega)).trans hg.2.2.2.1,(hw.cellAt _ (by omega)).trans hg.2.2.2.2⟩
def om(l:List Nat):List Value:=l.map (λn:Nat=>Value.int .i64 (n:Int))
theorem cG(l:List Nat):(om l).length=l.length:=by simp[om]
theorem oq{l:List Nat}{j:Nat}(h:j<l.length):(om l)[j]?=some (.int .i64 ((l.getD j 0:Nat):Int)):=by simp[om,h]
theorem Bu(l:List Nat)(j n:Nat):(om l).set j (.int .i64 (n:Int))=om (l.set j n):=by simp[om,map_set]
def rgK(k:Nat):List Nat:=range k++replicate (13-k) 0
theorem VO{k:Nat}(h:k<13):(rgK k).set k k=rgK (k+1):=by
 unfold rgK;rw[set_append_right _ _ (by simp),length_range,Nat.sub_self,show 13-k=(13-(k+1))+1 by omega,replicate_succ,set_cons_zero,range_succ,append_assoc];rfl
def Mv(f:Nat->Nat)(c:List Nat)(j:Nat):List Nat:=(c.map f).take j++c.drop j
theorem Vm(f:Nat->Nat)(c:List Nat)(j:Nat):(Mv f c j).length=c.length:=by
 unfold Mv;rw[length_append,length_take,length_map,length_drop];omega
theorem Qi(f:Nat->Nat){c:List Nat}{j:Nat}(h:j<c.length):(Mv f c j).getD j 0=c.getD j 0:=by
 unfold Mv;have e:((c.map f).take j).length=j:=by rw[length_take,length_map];omega
 simp only[getD_eq_getElem?_getD];rw[getElem?_append_right (by omega),e,Nat.sub_self,getElem?_drop,Nat.add_zero]
theorem Jf(f:Nat->Nat){c:List Nat}{j:Nat}(h:j<c.length):(Mv f c j).set j (f (c.getD j 0))=Mv f c (j+1):=by
 unfold Mv;have e:((c.map f).take j).length=j:=by rw[length_take,length_map];omega
 have hm:j<(c.map f).length:=by simpa using h
 rw[set_append_right _ _ (by omega),e,Nat.sub_self,drop_eq_getElem_cons h,set_cons_zero,take_succ_eq_append_getElem hm,append_assoc];simp[h]
theorem Qj(f:Nat->Nat){c:List Nat}{j:Nat}(h:j<c.length)(hf:f (c.getD j 0)=c.getD j 0):Mv f c (j+1)=Mv f c j:=by
 rw[<-Jf f h,hf,<-Qi f h,j7]
theorem info13:(prog.info? 236).map (·.size)=some 13:=by kernel_rfl
theorem Lq{w:World}{B:Nat}{av:Value}{al:List ci}(h:w.ownsRow B 239 5 av al.length (bN al))(ht:vm al)(m0:al.length<=1000)(hb:∀a∈al,a.lk<=2/\a.rk<=2/\a.li<=100/\a.ri<=100):
  Calls prog 151 #[av] w λe w'=>e=.returned (.agg (om (nz al)).toArray)/\Below w.heap.size w w':=by
 obtain⟨ao,cap,ko,oT,kD,ax⟩:=nS h;have HC:=ab ax;rw[ko];clear h ax ko;go_enter func151,ntmps151;go_wp2_with fail
 obtain⟨w0,mA⟩:∃w0,w0=((w.alloc (Obj.cells #[Value.int IntKind.i64 0,Value.int IntKind.i64 0,Value.int IntKind.i64 0,Value.int IntKind.i64 0,Value.int IntKind.i64 0,Value.int IntKind.i64 0,Value.int IntKind.i64 0,Value.int IntKind.i64 0,Value.int IntKind.i64 0,Value.int IntKind.i64 0,Value.int IntKind.i64 0,Value.int IntKind.i64 0,Value.int IntKind.i64 0] 236)).alloc (Obj.cells #[Value.int IntKind.i64 0,Value.int IntKind.i64 0,Value.int IntKind.i64 0,Value.int IntKind.i64 0,Value.int IntKind.i64 0,Value.int IntKind.i64 0,Value.int IntKind.i64 0,Value.int IntKind.i64 0,Value.int IntKind.i64 0,Value.int IntKind.i64 0,Value.int IntKind.i64 0,Value.int IntKind.i64 0,Value.int IntKind.i64 0] 236)):=⟨_,rfl⟩;rw[<-mA];have Su:Ob w0 236 13 w.heap.size (om (replicate 13 0)):=by
  rw[mA];exact Ob.alloc (ownsRow_lit (base:=0) (e:=236) (size:=13) w #[Value.int IntKind.i64 0,Value.int IntKind.i64 0,Value.int IntKind.i64 0,Value.int IntKind.i64 0,Value.int IntKind.i64 0,Value.int IntKind.i64 0,Value.int IntKind.i64 0,Value.int IntKind.i64 0,Value.int IntKind.i64 0,Value.int IntKind.i64 0,Value.int IntKind.i64 0,Value.int IntKind.i64 0,Value.int IntKind.i64 0] 1 (zq5 _) (by simp[maxLen]) rfl) _
 have hC0:Ob w0 236 13 (w.heap.size+1) (om (rgK 0)):=by
  have h1:=ownsRow_lit (base:=0) (e:=236) (size:=13) (w.alloc (Obj.cells #[Value.int IntKind.i64 0,Value.int IntKind.i64 0,Value.int IntKind.i64 0,Value.int IntKind.i64 0,Value.int IntKind.i64 0,Value.int IntKind.i64 0,Value.int IntKind.i64 0,Value.int IntKind.i64 0,Value.int IntKind.i64 0,Value.int IntKind.i64 0,Value.int IntKind.i64 0,Value.int IntKind.i64 0,Value.int IntKind.i64 0] 236)) #[Value.int IntKind.i64 0,Value.int IntKind.i64 0,Value.int IntKind.i64 0,Value.int IntKind.i64 0,Value.int IntKind.i64 0,Value.int IntKind.i64 0,Value.int IntKind.i64 0,Value.int IntKind.i64 0,Value.int IntKind.i64 0,Value.int IntKind.i64 0,Value.int IntKind.i64 0,Value.int IntKind.i64 0,Value.int IntKind.i64 0] 1 (zq5 _) (by simp[maxLen]) rfl;have e:(w.alloc (Obj.cells #[Value.int IntKind.i64 0,Value.int IntKind.i64 0,Value.int IntKind.i64 0,Value.int IntKind.i64 0,Value.int IntKind.i64 0,Value.int IntKind.i64 0,Value.int IntKind.i64 0,Value.int IntKind.i64 0,Value.int IntKind.i64 0,Value.int IntKind.i64 0,Value.int IntKind.i64 0,Value.int IntKind.i64 0,Value.int IntKind.i64 0] 236)).heap.size=w.heap.size+1:=by simp
  rw[e]at h1;rw[mA];exact h1
 have hB0:Below w.heap.size w w0:=by rw[mA];exact((Below.refl _ _).alloc (zq4 _) _).alloc (by simp) _
 obtain⟨R,hR⟩:∃R,R=w.heap.size:=⟨_,rfl⟩;obtain⟨C,hC⟩:∃C,C=w.heap.size+1:=⟨_,rfl⟩;rw[<-hR]at Su;rw[<-hC]at hC0 ⊢;rw[<-hR];have hRC:R≠C:=by omega
 have ZR:w.heap.size<=R:=by omega
 have hCB:w.heap.size<=C:=by omega
 clear mA hR hC;go_loopw [4] (λi wr=>∃k:Nat,k<=13/\i=.int .i64 k/\Hid (Ob wr 236 13 C (om (rgK k)))/\Hid (Ob wr 236 13 R (om (replicate 13 0)))/\Hid (Below w.heap.size w wr)) (λi _=>13-(intOf i).toNat)
 case atStart=>exact⟨0,zq5 _,rfl,ab hC0,ab Su,ab hB0⟩
 case round =>
  obtain⟨k,hk,rfl,Eu,sZ,qE⟩:=hrel;by_cases au:k<13
  .have hd:decide ((k:Int)<13)=true:=(by simp;omega);obtain⟨⟨u,hu⟩,hz⟩:=(uh Eu).some (j:=k) au;have OG:=(uh Eu).set k (.int .i64 (k:Int));rw[Bu,VO au]at OG;have HC2:=ab OG;have Th:=ab ((uh sZ).of_eq (w':=wr.setCell ⟨C,k,none⟩ (.int .i64 (k:Int))) (heap_setCell _ _ _ _ hRC));have eO:=ab ((uh qE).setCell (p:=⟨C,k,none⟩) hCB (.int .i64 (k:Int)));clear OG;go_wp2_with fail
   go_roundw
   case rel=>exact⟨k+1,by omega,by go_num,HC2,Th,eO⟩
   case measure=>simp[intOf];omega
  .have hd:decide ((k:Int)<13)=false:=(by simp;omega);have alw:k=13:=(by omega);subst alw;clear hC0 Su hB0;go_wp2_with fail
   go_loopg [19] al.length (λgn i wr=>∃k:Nat,k+gn=al.length/\i=.int .i64 k/\Hid (Ob wr 236 13 C (om ((al.take k).foldl oZ (range 13))))/\Hid (Ob wr 236 13 R (om (replicate 13 0)))/\Hid (Below w.heap.size w wr))
   case atStart=>exact⟨0,by omega,rfl,Eu,sZ,qE⟩
   case round =>
    obtain⟨k,hk,rfl,Eu,sZ,qE⟩:=hrel;by_cases au:k<al.length
    .have kY:decide ((k:Int)<(al.length:Int))=true:=(by simp;omega);obtain⟨g,s8,nY,ax⟩:=uh HC (by intro h;rw[h]at au;simp at au);subst s8;obtain⟨x0,x1,x2,x3,x4⟩:=ax k au;obtain⟨a,ha⟩:∃a,a=al[k]:=⟨_,rfl⟩;have Lc:=ht _ (getElem_mem au);have Ez:=hb _ (getElem_mem au);rw[<-ha]at x0 x1 x2 x3 x4 Lc Ez;have c0:=((uh qE).cell (block_lt_of_cell? w _ x0)).trans x0;have c1:=((uh qE).cell (block_lt_of_cell? w _ x1)).trans x1;have c2:=((uh qE).cell (block_lt_of_cell? w _ x2)).trans x2;have c3:=((uh qE).cell (block_lt_of_cell? w _ x3)).trans x3;have c4:=((uh qE).cell (block_lt_of_cell? w _ x4)).trans x4;clear ax x0 x1 x2 x3 x4;obtain⟨c,hc⟩:∃c,c=(al.take k).foldl oZ (range 13):=⟨_,rfl⟩;rw[<-hc]at Eu;have dT:c.length=13:=by
      rw[hc];exact(Bq (al.take k) _ (λb hb=>ht b (mem_of_mem_take hb)) (by simp) (λi hi=>by rw[BE i hi];exact hi)).1
     have fC:(al.take (k+1)).foldl oZ (range 13)=oZ c a:=by
      rw[take_succ_eq_append_getElem au,foldl_append,<-hc,ha];rfl
     have dh:=ab fC;have HCc:=ab hc;have HA:=ab ha;have C1:=(uh qE).alloc (uh qE).size (.cells #[Value.int .i64 a.k,.int .i64 a.lk,.int .i64 a.li,.int .i64 a.rk,.int .i64 a.ri] 239);have OG:=(uh Eu).alloc (.cells #[Value.int .i64 a.k,.int .i64 a.lk,.int .i64 a.li,.int .i64 a.rk,.int .i64 a.ri] 239);have ZQ:=(uh sZ).alloc (.cells #[Value.int .i64 a.k,.int .i64 a.lk,.int .i64 a.li,.int .i64 a.rk,.int .i64 a.ri] 239);have iF:=λj=>cell_of_row (wr.alloc (.cells #[Value.int .i64 a.k,.int .i64 a.lk,.int .i64 a.li,.int .i64 a.rk,.int .i64 a.ri] 239)) wr.heap.size j #[Value.int .i64 a.k,.int .i64 a.lk,.int .i64 a.li,.int .i64 a.rk,.int .i64 a.ri] 239 (0,0) (heap_alloc_new wr _);have n0:=iF 0;have n1:=iF 1;have n2:=iF 2;have n3:=iF 3;have n4:=iF 4;simp only[getElem?_toArray,getElem?_cons_zero,getElem?_cons_succ]at n0 n1 n2 n3 n4;have eO:=ab C1;have HC2:=ab OG;have Th:=ab ZQ;clear C1 OG ZQ iF fC hc ha Eu sZ qE;by_cases Pm:a.k=1
     .have aH:((a.k:Int) != 1)=false:=(by simp;omega);have LY:=ab (mg a.lk a.li Ez.1 (by omega) (wr.alloc (.cells #[Value.int .i64 a.k,.int .i64 a.lk,.int .i64 a.li,.int .i64 a.rk,.int .i64 a.ri] 239)));have HK1:=ab Pm;clear Pm;go_wp2_with fail
      refine(uh LY).mono ?_;rintro e w1 ⟨rfl,bz⟩;have aak:xt a.lk a.li<13:=Lc.1;have b7:xt a.rk a.ri<13:=Lc.2;obtain⟨t1,yu⟩:∃t1,t1=xt a.lk a.li:=⟨_,rfl⟩;obtain⟨t2,Lb⟩:∃t2,t2=xt a.rk a.ri:=⟨_,rfl⟩;rw[<-yu]at aak ⊢;rw[<-Lb]at b7;have hC3:=(uh HC2).of_eq (bz.block C (ownsRow.lt (uh HC2) _ rfl).2);have hR3:=(uh Th).of_eq (bz.block R (ownsRow.lt (uh Th) _ rfl).2);have Uf:Below w.heap.size w w1:=(uh eO).trans (bz.mono (uh eO).size);have d1:=(ownsRow.cellAt hC3 t1 (by omega)).trans (oq (l:=c) (by omega));have m3:=(bz.cell (block_lt_of_cell? _ _ n3)).trans n3;have m4:=(bz.cell (block_lt_of_cell? _ _ n4)).trans n4;obtain⟨kept,Po⟩:∃kept,kept=c.getD t1 0:=⟨_,rfl⟩;rw[<-Po]at d1;have Em:=ab (mg a.rk a.ri Ez.2.1 (by omega) w1);have HC3:=ab hC3;have L4:=ab hR3;have tA:=ab Uf;have B7:=ab yu;have Hb:=ab Lb;have HKe:=ab Po;clear hC3 hR3 Uf bz yu Po n0 n1 n2 n3 n4;go_wp2_with fail
      refine(uh Em).mono ?_;rintro e w2 ⟨rfl,aW⟩;rw[<-Lb];have hC4:=(uh HC3).of_eq (aW.block C (ownsRow.lt (uh HC3) _ rfl).2);have hR4:=(uh L4).of_eq (aW.block R (ownsRow.lt (uh L4) _ rfl).2);have hB4:Below w.heap.size w w2:=(uh tA).trans (aW.mono (uh tA).size);have d2:=(ownsRow.cellAt hC4 t2 (by omega)).trans (oq (l:=c) (by omega));obtain⟨gone,ID⟩:∃gone,gone=c.getD t2 0:=⟨_,rfl⟩;rw[<-ID]at d2;have HC4:=ab hC4;have WH:=ab hR4;have zT:=ab hB4;have HGo:=ab ID;have HMr:Hid (oZ c a=c.map (λx=>if x=gone then kept else x)):=ab (by
       unfold oZ;rw[if_pos (uh HK1),<-uh B7,<-Lb,<-ID,<-uh HKe])
      clear hC4 hR4 hB4 aW ID Lb d1;go_wp2_with fail
      go_loopw [9] (λi wr=>∃j:Nat,j<=13/\i=.int .i64 j/\Hid (Ob wr 236 13 C (om (Mv (λx=>if x=gone then kept else x) c j)))/\Hid (Ob wr 236 13 R (om (replicate 13 0)))/\Hid (Below w.heap.size w wr)) (λi _=>13-(intOf i).toNat)
      case atStart=>exact⟨0,zq5 _,rfl,HC4,WH,zT⟩
      case round =>
       obtain⟨j,hj,rfl,hC5,hR5,OE⟩:=hrel;by_cases fT:j<13
       .have hd3:decide ((j:Int)<13)=true:=(by simp;omega);have hjc:j<c.length:=(by omega);have hcj:=(ownsRow.cellAt (uh hC5) j (by omega)).trans (oq (by rw[Vm];omega));rw[Qi _ hjc]at hcj;have hzj:=ownsRow.frozenAt (uh hC5) j;obtain⟨x,hx⟩:∃x,x=c.getD j 0:=⟨_,rfl⟩;rw[<-hx]at hcj;have Yu:=ab (Jf (λx=>if x=gone then kept else x) hjc);have HKp:=ab (Qj (λx=>if x=gone then kept else x) hjc);rw[<-hx]at Yu HKp;by_cases hxg:x=gone
        .have he:((x:Int)==(gone:Int))=true:=(by rw[bf];simpa using hxg);have hC6:=(uh hC5).set j (.int .i64 (kept:Int));have vX:=uh Yu;rw[if_pos hxg]at vX;rw[Bu,vX]at hC6;clear vX;have HC6:=ab hC6;have Ti:=ab ((uh hR5).of_eq (w':=wr.setCell ⟨C,j,none⟩ (.int .i64 (kept:Int))) (heap_setCell _ _ _ _ hRC));have xY:=ab ((uh OE).setCell (p:=⟨C,j,none⟩) hCB (.int .i64 (kept:Int)));clear hC6 hxg hx;go_wp2_with fail
         go_roundw
         case rel=>exact⟨j+1,by omega,by go_num,HC6,Ti,xY⟩
         case measure=>simp[intOf];omega
        .have he:((x:Int)==(gone:Int))=false:=(by rw[bf];simpa using hxg);have qO:=uh HKp (if_neg hxg);have HC6:=hC5;rw[<-qO]at HC6;clear qO hxg hx;go_wp2_with fail
         go_roundw
         case rel=>exact⟨j+1,by omega,by go_num,HC6,hR5,OE⟩
         case measure=>simp[intOf];omega
       .have hd3:decide ((j:Int)<13)=false:=(by simp;omega);have als:j=13:=(by omega);subst als;have vT:Mv (λx=>if x=gone then kept else x) c 13=oZ c a:=by
         unfold Mv;rw[uh HMr,drop_of_length_le (by omega),append_nil,take_of_length_le (by simp;omega)]
        rw[vT]at hC5;clear vT;go_wp2_with fail
        go_roundg (gk-1)
        case rel=>exact⟨k+1,by omega,by go_num,ab (by rw[uh dh];exact uh hC5),hR5,OE⟩
        case measure=>omega
     .have aH:((a.k:Int) != 1)=true:=(by rw[bne_iff_ne];omega);have HMr:Hid (oZ c a=c):=ab (by unfold oZ;rw[if_neg Pm]);clear Pm;go_wp2_with fail
      go_roundg (gk-1)
      case rel=>exact⟨k+1,by omega,by go_num,ab (by rw[uh dh,uh HMr];exact uh HC2),Th,eO⟩
      case measure=>omega
    .have kY:decide ((k:Int)<(al.length:Int))=false:=(by simp;omega);have gJ:k=al.length:=(by omega);subst gJ;rw[take_length]at Eu;have fI:(nz al).length=13:=Br ht;have OF:Ob wr 236 13 C (om (nz al)):=uh Eu;have hRg:wr.rangeAt C 0 (om (nz al)):=by
      intro j v hj;have fT:=(List.getElem?_eq_some_iff.1 hj).1;rw[cG,fI]at fT;rw[Nat.zero_add,ownsRow.cellAt OF j (by omega)];exact hj
     have Cl:wr.there R 0 (om (nz al)).toArray.size:=by
      intro j hj;rw[size_toArray,cG,fI]at hj;obtain⟨⟨u,hu⟩,hz⟩:=(uh sZ).some (j:=j) hj;rw[Nat.zero_add];exact⟨by rw[hu];rfl,hz⟩
     have dV:(prog.info? 236).map (·.size)=some (om (nz al)).length:=(by rw[cG,fI];exact info13);have cd:(prog.info? 236).map (·.size)=some (om (nz al)).toArray.size:=(by rw[size_toArray,cG,fI];exact info13);have hO:(om (nz al)).toArray.all (·.oneCell')=true:=all_oneCell_toArray (by
      intro v hv;obtain⟨o,_,rfl⟩:=mem_map.1 hv;rfl)
     have vL:=Ob.setCells (om (nz al)) 0 (uh sZ);have yr:=nJ (om (nz al)) [] (om (replicate 13 0)) [] (by rw[cG,cG,fI];rfl);simp only[nil_append,append_nil,length_nil]at yr;rw[yr]at vL;have OE:∀(vs:List Value) (o:Nat) (x:World),Below w.heap.size w x->Below w.heap.size w (x.setCells R o vs):=by
      intro vs;induction vs with
      |nil=>intro o x h;exact h
      |cons v r ih=>intro o x h;exact ih (o+1) _ (h.setCell ZR v)
     have lN:=ab (OE (om (nz al)) 0 wr (uh qE));obtain⟨M,hM⟩:∃M,M=om (nz al):=⟨_,rfl⟩;rw[<-hM]at hRg Cl dV cd hO vL lN;have HM:=ab hM;have HRg:=ab hRg;have CB:=ab Cl;have fG:=ab dV;have eo:=ab cd;have HO:=ab hO;have J6:=ab vL;clear hRg Cl dV cd hO vL yr OE hM OF Eu sZ qE;go_wp2_with (first|refine wpList_load_mid rfl 236 (.tmp 3) rfl C 0 rfl M _ (uh HRg) underlying236 rfl (uh fG) ?_|refine wpList_store_mid rfl 236 (.tmp 2) (.tmp 49) rfl R 0 M.toArray rfl rfl (uh CB) (uh eo) (uh HO) ?_)
     have aaz:(wr.setCells R 0 M).rangeAt R 0 M:=by
      intro j v hj;have fT:=(List.getElem?_eq_some_iff.1 hj).1;rw[uh HM,cG,fI]at fT;rw[Nat.zero_add,ownsRow.cellAt (uh J6) j (by omega)];exact hj
     have hld:=run_loadVar_mid (P:=prog) (wr.setCells R 0 M) R 0 236 M _ aaz underlying236 rfl (uh fG);refine bodyPost_ret (v:=.agg M.toArray) ?_ rfl ⟨by rw[uh HM],uh lN⟩;simp[results,Tryz.results151,Act.put,asAddr,hld]
