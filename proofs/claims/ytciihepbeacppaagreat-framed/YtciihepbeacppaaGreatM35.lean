import Derived.Test.YtciihepbeacppaaGreatM34
import Derived.OpenShut
import Derived.ProofKit
import Derived.Test.YtciihepbeacppaaGreatRows
set_option maxRecDepth 100000
set_option maxHeartbeats 0
namespace Go.Proofs.YtciihepbeacppaaGreat
open _root_.Go.Proofs.Tryz Go.RowKit List
set_option linter.unusedVariables false
theorem aeB{s:ByteArray}{A R:List UInt8}{c:UInt8}(hs:s.data.toList=A++c::R):A.length<s.size/\(∀k,(h:k<A.length)->(h':k<s.size)->s[k]=A[k])/\∀h':A.length<s.size,s[A.length]=c:=by
 have hl:s.data.toList.length=s.size:=bu s;have h1:A.length<s.size:=by rw[<-hl,hs];simp
 have hg:∀k,(h':k<s.size)->s.data.toList[k]?=some s[k]:=λk h'=>by
  have:k<s.data.toList.length:=by rw[hl];exact h'
  rw[getElem?_eq_getElem this];rfl
 refine⟨h1,λk h h'=>?_,λh'=>?_⟩
 .have:=hg k h';rw[hs,getElem?_append_left h,getElem?_eq_getElem h]at this;injection this with this;exact this.symm
 .have:=hg A.length h';rw[hs,getElem?_append_right (zq4 _)]at this;simp at this;exact this.symm
theorem ahr{a b:UInt8}(h:a≠b):((a.toNat:Int) != (b.toNat:Int))=true:=by
 rw[bne_iff_ne];intro e;exact h (UInt8.toNat_inj.1 (by omega))
theorem JY{s:ByteArray}{A R:List UInt8}(w:World)(hs:s.data.toList=A++123::R)(hA:123 ∉ A)(hz:s.size<=1000000):
  Calls prog 44 #[.string s] w λe w'=>e=.returned (.int .i64 ((A.length:Int)+1))/\w'=w:=by
 obtain⟨h1,h2,h3⟩:=aeB hs;have H2:Hid (∀k,(h:k<A.length)->(h':k<s.size)->((s[k].toNat:Int) != 123)=true):=ab (λk h h'=>by
  rw[h2 k h h'];exact ahr (b:=123) (λe=>hA (by rw[<-e];exact getElem_mem h)))
 have H3:Hid (∀h':A.length<s.size,((s[A.length].toNat:Int) != 123)=false):=ab (λh'=>by rw[h3 h'];rfl);obtain⟨a,ha⟩:∃a,a=A.length:=⟨_,rfl⟩;rw[<-ha]at h1 H2 ⊢;have H3:Hid (∀h':a<s.size,((s[a].toNat:Int) != 123)=false):=by subst ha;exact H3
 clear h2 h3 hs hA ha;go_enter func44,ntmps44;go_wp2_with fail
 go_loopg [3] a (λgn iv wx=>∃(k:Nat),k+gn=a/\iv=.int .i64 k/\wx=w)
 case atStart=>exact⟨0,by omega,rfl,rfl⟩
 case round =>
  obtain⟨k,fJ,rfl,rfl⟩:=hrel;obtain⟨G1,zW⟩:∃G1,G1=gk:=⟨_,rfl⟩;by_cases ar:k<a
  .have hk:k<s.size:=(by omega);have hd:decide ((k:Int)<(s.size:Int))=true:=(by simp;omega);have aL:=uh H2 k ar hk;go_wp2_with fail
   go_roundg (G1-1)
   case rel=>exact⟨k+1,by omega,by go_num,rfl⟩
   case measure=>omega
  .have hka:k=a:=(by omega);subst hka;have hd:decide ((k:Int)<(s.size:Int))=true:=(by simp;omega);have aL:=uh H3 h1;go_wp2_with fail
   go_ret;exact⟨rfl,rfl⟩
def Px(s:ByteArray)(i:Int):Bool:=decide (0<=i)&&decide (i<s.size)&&dS (s.data.toList.getD i.toNat 0)
theorem MX{s:ByteArray}{n:Nat}(h:n<s.size):s.data.toList.getD n 0=s[n]:=by
 have h1:n<s.data.toList.length:=by rw[bu];exact h
 rw[getD_eq_getElem?_getD,getElem?_eq_getElem h1];rfl
theorem UQ{c:UInt8}:dS c=(decide (97<=(c.toNat:Int))&&decide ((c.toNat:Int)<=122)||decide (65<=(c.toNat:Int))&&decide ((c.toNat:Int)<=90)):=rfl
theorem As(s:ByteArray)(i:Int)(w:World)(hs:s.size<=1000000)(h0:-1<=i)(h1:i<=1000000):
  Calls prog 118 #[.string s,.int .i64 i] w λe w'=>e=.returned (.bool (Px s i))/\w'=w:=by
 by_cases hn:0<=i
 .obtain⟨n,rfl⟩:∃n:Nat,i=(n:Int):=⟨i.toNat,by omega⟩;by_cases ar:n<s.size
  .have HR:Hid (Px s (n:Int)=(decide (97<=(s[n].toNat:Int))&&decide ((s[n].toNat:Int)<=122)||decide (65<=(s[n].toNat:Int))&&decide ((s[n].toNat:Int)<=90))):=ab (by
    unfold Px;rw[decide_eq_true hn,decide_eq_true (by omega:(n:Int)<s.size),Int.toNat_natCast,MX ar,UQ];rfl)
   go_enter func118,ntmps118;go_wp2_with fail
   all_goals
    go_ret;exact⟨aB (by rw[uh HR];simp_all <;> (intros;omega)),rfl⟩
  .have HR:Hid (Px s (n:Int)=false):=ab (by unfold Px;rw[decide_eq_false (by omega:¬ (n:Int)<s.size)];simp);go_enter func118,ntmps118;go_wp2_with fail
   go_ret;exact⟨aB (uh HR).symm,rfl⟩
 .have HR:Hid (Px s i=false):=ab (by unfold Px;rw[decide_eq_false hn];rfl);go_enter func118,ntmps118;go_wp2_with fail
  go_ret;exact⟨aB (uh HR).symm,rfl⟩
theorem aaP(s:ByteArray)(n:Nat)(h:n<s.size):Px s ((n:Int)-1)=lfL s.data.toList n:=by
 unfold Px lfL;by_cases h0:0<n
 .rw[decide_eq_true (by omega:(0:Int)<=(n:Int)-1),decide_eq_true (by omega:(n:Int)-1<s.size),decide_eq_true h0,show((n:Int)-1).toNat=n-1 by omega];rfl
 .rw[decide_eq_false (by omega:¬ (0:Int)<=(n:Int)-1),decide_eq_false h0];rfl
theorem aaQ(s:ByteArray)(n:Nat):Px s ((n:Int)+1)=rtL s.data.toList n:=by
 unfold Px rtL;rw[decide_eq_true (by omega:(0:Int)<=(n:Int)+1),show((n:Int)+1).toNat=n+1 by omega,bu,show decide (((n:Int)+1)<s.size)=decide (n+1<s.size) by(rw[decide_eq_decide];omega)];rfl
theorem Lv(s:ByteArray)(n:Nat)(w:World)(hs:s.size<=999999)(hn:n<s.size):
  Calls prog 67 #[.string s,.int .i64 (n:Int)] w λe w'=>e=.returned (.bool (wy s.data.toList n))/\w'=w:=by
 have HR:Hid (wy s.data.toList n=(decide (97<=(s[n].toNat:Int))&&decide ((s[n].toNat:Int)<=122)&&!Px s ((n:Int)-1)&&!Px s ((n:Int)+1))):=ab (by
  unfold wy Bh;rw[MX hn,aaP s n hn,aaQ];rfl)
 go_enter func67,ntmps67;go_wp2_with (go_at_call 118;refine(As _ _ _ (by omega) (by omega) (by omega)).mono ?_;rintro e w' ⟨rfl,rfl⟩)
 all_goals
  go_ret;exact⟨aB (by rw[uh HR];simp_all <;> (intros;omega)),rfl⟩
def rnB(k:Nat)(ws:List ByteArray):List ByteArray:=(rnW k false (ws.map (·.data.toList))).map (λx=>⟨x.toArray⟩)
def rnS(k:Nat)(s:PS):PS:={ s with vars:=s.vars.map (shU k) }
theorem Jj(k:Nat):∀(L:List (List UInt8)) (f:Bool) (i:Nat),(rnW k f L)[i]?=(L[i]?).map (rnL k (if i=0 then f else decide (L[i-1]?=some [46])))
 |[],f,i=>by simp[rnW]
 |x::r,f,0=>by simp[rnW]
 |x::r,f,i+1=>by
  simp only[rnW,getElem?_cons_succ];rw[Jj k r];cases i with
  |zero=>simp
  |succ i=>simp
def ptB(ws:List ByteArray)(s:PS):Bool:=if s.pos=0 then false else decide ((ws.map (·.data.toList))[s.pos-1]?=some [46])
theorem ahj(k:Nat)(ws:List ByteArray)(s:PS):(pk (rnB k ws) (rnS k s)).data.toList=rnL k (ptB ws s) (pk ws s).data.toList:=by
 unfold pk;rw[show(rnS k s).failed=s.failed from rfl,show(rnS k s).pos=s.pos from rfl];split
 .rfl
 .unfold rnB;rw[getElem?_map,Jj];unfold ptB;rw[show(List.map (λx:ByteArray=>x.data.toList) ws)[s.pos]?=(ws[s.pos]?).map (λx:ByteArray=>x.data.toList) from getElem?_map ..];cases hw:ws[s.pos]? with
  |none=>rfl
  |some x=>rfl
theorem Vv{k:Nat}{f:Bool}{x key:List UInt8}(hk:∀c,key=[c]->Bh c=false):rnL k f x=key↔x=key:=by
 unfold rnL;split
 .rename_i c;split
  .rename_i h;have hc:Bh c=true:=(by rw[Bool.and_eq_true]at h;exact h.1);constructor
   .intro e;have:=hk _ e.symm;rw[abV]at this;cases this
   .intro e;have:=hk _ e.symm;rw[hc]at this;cases this
  .exact Iff.rfl
 .exact Iff.rfl
def Key(w:ByteArray):Prop:=(∀c,w.data.toList=[c]->Bh c=false)/\w.data.toList≠[46]
section
variable {k:Nat} {ws:List ByteArray} {s:PS}
theorem GT{key:ByteArray}:bR ws key s=true↔(pk ws s).data.toList=key.data.toList:=by
 unfold bR;rw[beq_iff_eq,ByteArray.toList_eq,ByteArray.toList_eq]
theorem YG{key:ByteArray}(hk:∀c,key.data.toList=[c]->Bh c=false):bR (rnB k ws) key (rnS k s)=bR ws key s:=by
 rw[Bool.eq_iff_iff,GT,GT,ahj,Vv hk]
structure RnI(ws:List ByteArray)(s:PS):Prop where
 nd:s.failed=true\/ptB ws s=false
 sv:∀c∈s.vars,Bh c=true
def aaS(w:ByteArray):Bool:=(match w.data.toList with|[c]=>!Bh c|_=>true)&&!(w.data.toList==[46])&&!(w.data.toList==[])
theorem aaT{w:ByteArray}(h:aaS w=true):Key w/\w.data.toList≠[]:=by
 unfold aaS at h;rw[Bool.and_eq_true,Bool.and_eq_true]at h;obtain⟨⟨h1,h2⟩,h3⟩:=h;refine⟨⟨λc hc=>?_,λe=>?_⟩,λe=>?_⟩
 .rw[hc]at h1;simpa using h1
 .rw[e]at h2;exact absurd h2 (by decide)
 .rw[e]at h3;exact absurd h3 (by decide)
theorem ke{key:ByteArray}(hk:aaS key=true):bR (rnB k ws) key (rnS k s)=bR ws key s:=YG (aaT hk).1.1
def Sb(k:Nat)(ws:List ByteArray)(b' b:PS->PS):Prop:=∀s,RnI ws s->b' (rnS k s)=rnS k (b s)/\RnI ws (b s)
variable {b' b:PS->PS}
end
structure Wx(w0 w:World)(Y X:Nat)(s:ByteArray)(ws:List ByteArray)(G:List Nat):Prop where
 dk:Dsk w Y X s
 p:xi w X ws G
 y:Y ∉ G
 b:∀k∈G,w0.heap.size<=k
 bw:Below w0.heap.size w0 w
section
variable {w0 w w':World} {Y X:Nat} {s:ByteArray} {ws:List ByteArray} {G G':List Nat}
theorem Wx.below(h:Wx w0 w Y X s ws G)(hb:Below w.heap.size w w'):Wx w0 w' Y X s ws G :=
 ⟨Bk.below h.dk hb,h.p.below hb,h.y,h.b,h.bw.trans (hb.mono h.bw.size)⟩
theorem Wx.ask(h:Wx w0 w Y X s ws G)(a:Ask w X ws G G' w'):Wx w0 w' Y X s ws G':=by
 have TZ:Y<w.heap.size:=Bk.lt h.dk;have hX:=h.p.mem;refine⟨Bk.stp h.dk a.st (by simp only[mem_singleton];intro e;exact h.y (by rw[e];exact hX)),a.pg,λhk=>?_,λk hk=>?_,?_⟩
 .rcases a.gr Y hk with hk|hk
  .exact h.y hk
  .omega
 .rcases a.gr k hk with hk|hk
  .exact h.b k hk
  .have:=h.bw.size;omega
 .exact h.bw.trans (a.st.below h.bw.size (λk hk=>by rw[mem_singleton.1 hk];exact h.b X hX))
end
section
variable {P:Program}
theorem acl {ops:Array Oper} {rest:List Oper} {op:Oper} {a:Act} {w:World} {Q:Exit->Act->World->Prop} (hgd:op.guard=none) (t:TypeId) (n:Nat) (parts:Array (Nat × Operand)) (ho:op.op=.buildSlice t n parts)
  (vals:Array (Nat × Value)) (hv:(parts.map fun(i,x)=>(i,a.eval x))=vals) (v:Value) (w':World) (hr:(Instr.buildSlice t n vals).run P w=.ok v w') (h:wpList P ops Q rest (a.put op.dst v) w'):wpList P ops Q (op::rest) a w :=
 wpList_plain hgd λK hK=>by
  unfold Oper.wp execOp;simp only[ho,hv,Sem.run_bind,Sem.run_pure,Result.andThen_ok,hr];exact hK _ _ h
end
def R4(l:List UInt8)(c n:Nat):Bool:=(range n).any (λi=>wy l i&&decide ((l.getD i 0).toNat=97+c))
theorem Qc(l:List UInt8)(c n:Nat):R4 l c (n+1)=(R4 l c n||(wy l n&&decide ((l.getD n 0).toNat=97+c))):=by
 unfold R4;rw[range_succ,any_append];simp
theorem abh{l:List UInt8}{c:Nat}(hc:c<26)(h:R4 l c l.length=false):Bh (UInt8.ofNat (97+c))=true/\∀i,i<l.length->wy l i=true->l.getD i 0≠UInt8.ofNat (97+c):=by
 have e:(UInt8.ofNat (97+c)).toNat=97+c:=by rw[UInt8.toNat_ofNat'];omega
 refine⟨?_,λi hi hs he=>?_⟩
 .unfold Bh gP;rw[e,decide_eq_true (by omega),decide_eq_true (by omega)];rfl
 .unfold R4 at h;rw[any_eq_false]at h;have:=h i (by simpa using hi);rw[hs,he,e]at this;simp at this
theorem abg{n:Nat}(h:decide ((n:Int)<4)=true):n<4:=by have:=of_decide_eq_true h;omega
theorem YQ(w:World)(x:Int):(Instr.buildSlice 101 1 #[(0,.int .u8 x)]).run prog w=.ok (.slice (some ⟨w.heap.size,0,none⟩) 1 1) (w.alloc (.cells #[.int .u8 x] 5)):=by kernel_rfl
theorem J3{w:World}{Y X:Nat}{s:ByteArray}{ws:List ByteArray}{G:List Nat}(L6:Dsk w Y X s)(hp:xi w X ws G)(hz:s.size<=240):
  Calls prog 45 #[.pointer (some ⟨Y,0,none⟩)] w λe w'=>∃x ok,e=.returned (.tuple #[.string x,.bool ok])/\Below w.heap.size w w'/\x.size<=1 /\
   (ok=true->∃z,Bh z=true/\x=⟨[z].toArray⟩/\(∀i,i<s.data.toList.length->wy s.data.toList i=true->s.data.toList.getD i 0≠z)/\(fn ws aX).vars.length<4):=by
 have c0:w.cell? ⟨Y,0,none⟩=some (.pointer (some ⟨X,0,none⟩)):=L6.cell 0 rfl;have c1:w.cell? ⟨Y,1,none⟩=some (.string s):=L6.cell 1 rfl;have HV:=ab hp.vars;obtain⟨nv,BT⟩:∃nv,nv=(fn ws aX).vars.length:=⟨_,rfl⟩;rw[<-BT]at HV ⊢;obtain⟨l,hl⟩:∃l,l=s.data.toList:=⟨_,rfl⟩;have tX:l.length=s.size:=by rw[hl];exact bu s
 rw[<-hl];have HL:=ab hl;have EE:=ab tX;clear L6 hp BT hl tX;go_enter func45,ntmps45;go_wp2_with fail
 refine(uh HV).mono ?_;rintro e w1 ⟨rfl,n,tZ⟩;have HB:Hid (Below w.heap.size w w1):=ab (by rw[tZ];exact gz w n);have x1:w1.cell? ⟨Y,1,none⟩=some (.string s):=by rw[tZ];exact c1
 clear tZ HV c0 c1;go_wp2_with fail
 go_loopg [5] 26 (λgn iv wx=>∃(c:Nat),c+gn=26/\iv=.int .i64 c/\wx=w1)
 case atStart=>exact⟨0,by omega,rfl,rfl⟩
 case round =>
  obtain⟨c,fZ,rfl,rfl⟩:=hrel;obtain⟨G1,zW⟩:∃G1,G1=gk:=⟨_,rfl⟩;by_cases hc:c<26
  .have hd:decide ((c:Int)<(26:Int))=true:=(by simp;omega);go_wp2_with fail
   go_loopg [6,7] s.size (λgm tv iv wx=>∃(i:Nat) (t:Bool),i+gm=s.size/\iv=.int .i64 i/\tv=.bool t/\wx=wr/\Hid (t=R4 l c i))
   case atStart=>exact⟨0,false,by omega,rfl,rfl,rfl,ab rfl⟩
   case round =>
    obtain⟨i,t,tt,rfl,rfl,rfl,hJ⟩:=hrel;obtain⟨H2,hH2⟩:∃H2,H2=gk:=⟨_,rfl⟩;by_cases xx:i<s.size
    .have kj:decide ((i:Int)<(s.size:Int))=true:=(by simp;omega);have MA:=ab (λW=>Lv s i W (by omega) xx);rw[<-uh HL]at MA;have hgi:l.getD i 0=s[i]:=(by rw[uh HL];exact MX xx);have Sz:=ab (Qc l c i);rw[hgi]at Sz;have HJ:=ab (uh hJ);clear hJ hgi;cases t with
     |true =>
      have HN:Hid (true=R4 l c (i+1)):=ab (by rw[uh Sz,<-uh HJ];rfl);clear HJ Sz;go_wp2_with (go_at_call 67;refine(uh MA _).mono ?_;rintro e w' ⟨rfl,rfl⟩)
      go_roundg (H2-1)
      case rel=>exact⟨i+1,true,by omega,by go_num,rfl,rfl,HN⟩
      case measure=>omega
     |false =>
      cases pi:wy l i with
      |false =>
       rw[pi]at MA;have HN:Hid (false=R4 l c (i+1)):=ab (by rw[uh Sz,<-uh HJ,pi];rfl);clear HJ Sz pi;go_wp2_with (go_at_call 67;refine(uh MA _).mono ?_;rintro e w' ⟨rfl,rfl⟩)
       go_roundg (H2-1)
       case rel=>exact⟨i+1,false,by omega,by go_num,rfl,rfl,HN⟩
       case measure=>omega
      |true =>
       rw[pi]at MA;have Ej:(s[i].toNat:Int)<=255:=(by have:=s[i].toNat_lt;omega);by_cases he:(s[i].toNat:Int)=97+(c:Int)
       .have hq:((s[i].toNat:Int)==97+(c:Int))=true:=(by simpa using he);have HN:Hid (true=R4 l c (i+1)):=ab (by rw[uh Sz,<-uh HJ,pi,decide_eq_true (by omega)];rfl);clear HJ Sz pi he;go_wp2_with (go_at_call 67;refine(uh MA _).mono ?_;rintro e w' ⟨rfl,rfl⟩)
        go_roundg (H2-1)
        case rel=>exact⟨i+1,true,by omega,by go_num,rfl,rfl,HN⟩
        case measure=>omega
       .have hq:((s[i].toNat:Int)==97+(c:Int))=false:=(by simpa using he);have HN:Hid (false=R4 l c (i+1)):=ab (by rw[uh Sz,<-uh HJ,pi,decide_eq_false (by omega)];rfl);clear HJ Sz pi he;go_wp2_with (go_at_call 67;refine(uh MA _).mono ?_;rintro e w' ⟨rfl,rfl⟩)
        go_roundg (H2-1)
        case rel=>exact⟨i+1,false,by omega,by go_num,rfl,rfl,HN⟩
        case measure=>omega
    .have kj:decide ((i:Int)<(s.size:Int))=false:=(by simp;omega);have KG:i=l.length:=(by have:=uh EE;omega);subst KG;have HJ:=ab (uh hJ);clear hJ;cases t with
     |true =>
      clear HJ;go_wp2_with fail
      go_roundg (G1-1)
      case rel=>exact⟨c+1,by omega,by go_num,rfl⟩
      case measure=>omega
     |false =>
      have HNO:=ab (abh hc (uh HJ).symm);clear HJ;obtain⟨z,hze⟩:∃z:UInt8,z=UInt8.ofNat (97+c):=⟨_,rfl⟩;rw[<-hze]at HNO;have T4:(97:Int)+(c:Int)<=122:=(by omega);have Xd:(convert 101 9 (.slice (some ⟨wr.heap.size,0,none⟩) 1 1)).run prog (wr.alloc (.cells #[.int .u8 (97+(c:Int))] 5))=.ok (.string ⟨[z].toArray⟩) (wr.alloc (.cells #[.int .u8 (97+(c:Int))] 5)):=run_convert_bytes_back _ 101 9 5 ⟨wr.heap.size,0,none⟩ 1 [z] underlying101 underlying5 underlying9 (λj hj=>by
       have hj0:j=0:=(by simpa using hj);subst hj0;have h1:=Gb wr wr.heap.size rfl [.int .u8 (97+(c:Int))] 5 0 _ rfl;have e:(97+(c:Int))=(z.toNat:Int):=(by rw[hze,UInt8.toNat_ofNat'];omega);exact h1.trans (congrArg (λx=>some (Value.int .u8 x)) e))
      clear hze;go_wp2_with (refine acl rfl 101 1 _ rfl #[(0,.int .u8 _)] rfl _ _ (YQ _ _) ?_)
      go_ret2;exact⟨_,_,rfl,(uh HB).alloc (uh HB).size _,zq4 1,λbD=>⟨_,(uh HNO).1,rfl,(uh HNO).2,abg bD⟩⟩
  .have hd:decide ((c:Int)<(26:Int))=false:=(by simp;omega);go_wp2_with fail
   go_ret2;exact⟨_,_,rfl,uh HB,zq5 1,λh=>by cases h⟩
theorem M7{s:ByteArray}{A R:List UInt8}{z:UInt8}(hs:s.data.toList=A++123::R){a n:Nat}(ha:a=A.length)(hn:n=s.size):
  s.extract 0 a++⟨#[32,42,32]⟩++⟨#[z]⟩++⟨#[45,62,110,105,108,32]⟩++s.extract a n=⟨(kA A z R).toArray⟩:=by
 have hl:s.size=A.length+1+R.length:=by rw[<-bu,hs];simp;omega
 have e1:(s.extract 0 a).data.toList=A:=by
  rw[<-ByteArray.toList_eq,Lib.extract_toList,hs,ha,drop_zero,Nat.sub_zero];exact take_left' rfl
 have e2:(s.extract a n).data.toList=123::R:=by
  rw[<-ByteArray.toList_eq,Lib.extract_toList,hs,ha,hn,hl,drop_left' rfl];exact take_of_length_le (by simp;omega)
 have key:∀b:ByteArray,b=⟨b.data.toList.toArray⟩:=λb=>by cases b;simp
 rw[key (s.extract 0 a),key (s.extract a n),e1,e2,show(⟨#[32,42,32]⟩:ByteArray)=⟨[32,42,32].toArray⟩ from rfl,show(⟨#[z]⟩:ByteArray)=⟨[z].toArray⟩ from rfl,show(⟨#[45,62,110,105,108,32]⟩:ByteArray)=⟨[45,62,110,105,108,32].toArray⟩ from rfl,SP,SP,SP,SP];unfold kA;simp
section
variable {w0 w:World} {Y X:Nat} {s:ByteArray} {ws:List ByteArray} {G:List Nat} {A R:List UInt8}
theorem Fc (hS:Wx w0 w Y X s ws G) (hA:AnW ws) (hs:s.data.toList=A++123::R) (hnA:123 ∉ A) (hz:s.size<=240)
  (hE:∀z,Bh z=true->(∀i,i<s.data.toList.length->wy s.data.toList i=true->s.data.toList.getD i 0≠z)->(fn ws aX).vars.length<4->(kA A z R).length<=240->(GY ws).vd=0->lA (kA A z R)=0/\AnW (b9 (kA A z R))/\((GY (b9 (kA A z R))).vd=0\/(GY (b9 (kA A z R))).vd=2)) :
  Calls prog 23 #[.pointer (some ⟨Y,0,none⟩)] w λe w'=>e=.returned (.bool true)/\Below w0.heap.size w0 w':=by
 have c0:w.cell? ⟨Y,0,none⟩=some (.pointer (some ⟨X,0,none⟩)):=hS.dk.cell 0 rfl;have HV:=ab (hS.p.verdict hA);have HS:=ab hS;have HEE:=ab hE;obtain⟨vd,Xy⟩:∃vd,vd=(GY ws).vd:=⟨_,rfl⟩;rw[<-Xy]at HV HEE;have KR:s.size=A.length+1+R.length:=by rw[<-bu,hs];simp;omega
 obtain⟨a,ha⟩:∃a,a=A.length:=⟨_,rfl⟩;have haz:a<s.size:=by omega
 have zr:Hid (∀W,Calls prog 44 #[.string s] W λe w'=>e=.returned (.int .i64 ((a:Int)+1))/\w'=W):=ab (λW=>by rw[ha];exact JY (s:=s) (A:=A) W hs hnA (by omega));have HTX:Hid (∀z:UInt8,s.extract 0 a++⟨#[32,42,32]⟩++⟨#[z]⟩++⟨#[45,62,110,105,108,32]⟩++s.extract a s.size=⟨(kA A z R).toArray⟩):=ab (λz=>M7 hs ha rfl);have We:Hid (∀z:UInt8,(kA A z R).length<=1000):=ab (λz=>by unfold kA;simp;omega);clear hS hA hE Xy hs hnA ha KR;go_enter func23,ntmps23;go_wp2_with fail
 refine(uh HV).mono ?_;rintro e w2 ⟨rfl,G2,ha2⟩;have bS:=(uh HS).ask ha2;have HF:=ab (J3 bS.dk bS.p hz);have cS:=ab bS;clear bS ha2 HV HS c0;go_wp2_with fail
 refine(uh HF).mono ?_;rintro e w3 ⟨x,ok,rfl,du,vF,bD⟩;have cB:=(uh cS).below du;have c1:w3.cell? ⟨Y,1,none⟩=some (.string s):=cB.dk.cell 1 rfl;have gu:=ab cB;have kO:=ab bD;clear cB du bD HF cS;go_wp2_with fail
 refine(uh zr _).mono ?_;rintro e w4 ⟨rfl,rfl⟩;clear zr;have q1:(0:Int)<=(a:Int):=by omega
 have q2:(a:Int)<=(s.size:Int):=by omega
 cases ok with
 |false =>
  clear kO HEE HTX We;have HB:Hid (∀n,Below w0.heap.size w0 (w4.drewN n)):=ab (λn=>(uh gu).bw.trans ((gz w4 n).mono (uh gu).bw.size));clear gu;go_wp2_with fail
  go_quiet (fail)
  go_wp2_with fail
  go_ret;exact⟨rfl,uh HB _⟩
 |true =>
  obtain⟨z,fK,rfl,f9,hz3⟩:=uh kO rfl;have HB:Hid (∀n,Below w0.heap.size w0 (w4.drewN n)):=ab (λn=>(uh gu).bw.trans ((gz w4 n).mono (uh gu).bw.size));have HSD:Hid (∀n,Wx w0 (w4.drewN n) Y X s ws G2):=ab (λn=>(uh gu).below (gz w4 n));have HEZ:=ab (uh HEE z fK f9 hz3);have HTZ:=ab (uh HTX z);have OC:=uh We z;obtain⟨T,hT⟩:∃T,T=kA A z R:=⟨_,rfl⟩;rw[<-hT]at HEZ HTZ OC;clear kO HEE HTX We fK f9 hz3 hT gu;by_cases hv:vd=0
  .subst hv;go_wp2_with fail
   go_quiet (fail)
   rw[uh HTZ];clear HTZ c1;by_cases aqS:240<T.length
   .have d0:decide ((240:Int)<(T.length:Int))=true:=(by simp;omega);clear HEZ HSD;go_wp2_with fail
    go_ret;exact⟨rfl,uh HB _⟩
   .have d0:decide ((240:Int)<(T.length:Int))=false:=(by simp;omega);obtain⟨hE0,hA2,Xy⟩:=uh HEZ (by omega) (by first|rfl|trivial);have HLD:Hid (∀W,_):=ab (λW=>Dg ⟨T.toArray⟩ W (by show T.toArray.size<=20000;simp;omega));have HE0:=ab hE0;have kX:=ab (zq2 hA2 Xy);clear hE0 hA2 Xy HEZ HB;go_wp2_with fail
    refine(uh HLD _).mono ?_;rintro e w5 ⟨dT,⟨alH,-⟩|⟨-,X2,rfl,hL⟩⟩
    .exact absurd (uh HE0) alH
    .obtain⟨G3,hG3,T6⟩:=hL.prg;have hD:XY w0 w5 Y X X2 s ws (b9 T) G2 G3:=by
      have h0:=uh HSD nq;have h1:=h0.below dT;exact⟨h1.dk,h1.p,hG3,h1.y,λhm=>by have:=T6 _ hm;have:=Bk.lt h0.dk;omega,λk hk mF=>by have:=T6 _ mF;have:=h0.p.lt k hk;omega,h1.b,λk hk=>by have:=T6 k hk;have:=h0.bw.size;omega,h1.bw⟩
     have Yp:=ab (hD.p2.verdict (uh kX).1);obtain⟨vd2,aaF⟩:∃vd2,vd2=(GY (b9 T)).vd:=⟨_,rfl⟩;rw[<-aaF]at Yp;have Em:vd2=0\/vd2=2:=(by rw[aaF];exact(uh kX).2);have HD:=ab hD;clear dT hL hG3 T6 hD HLD HSD HE0 aaF d0 kX;go_wp2_with fail
     refine(uh Yp).mono ?_;rintro e w6 ⟨rfl,G4,ha4⟩;have HN:=ab ((uh HD).ask2 ha4).bw;clear ha4 Yp HD;rcases Em with rfl|rfl
     all_goals
      go_wp2_with fail
      go_ret;exact⟨rfl,uh HN⟩
  .have dv:((vd:Int) != (0:Int))=true:=(by simp;omega);clear HEZ HSD hv;go_wp2_with fail
   go_quiet (fail)
   clear HTZ c1;go_wp2_with fail
   go_ret;exact⟨rfl,uh HB _⟩
end
open Go.ChangeShapes Go.WideShapes Go.ChangeAt Go.RowKit Go.ChangeMaps
set_option linter.unusedVariables false
theorem own:ownKnob prog.godebug=none:=by kernel_rfl
theorem walk(s:ByteArray)(w:World):Calls prog 11 #[.string s] w λe w'=>e=.returned (.bool true)/\Below w.heap.size w w':=by
 have HD:=ab (Nv s w);go_enter func11,ntmps11;go_wp2_with fail
 refine(uh HD).mono ?_;rintro e w1 ⟨hb,⟨-,rfl⟩|⟨hs,hE,Y,X,G,rfl,h1,h2,h3,h4,h5⟩⟩
 .have HB:=ab hb;clear hb HD;go_wp2_with fail
  go_ret;exact⟨rfl,uh HB⟩
 .have hA:=lP hE;obtain⟨A,B,W,f,b,k,hc,hf,aU,hw⟩:=abJ hE;have HAG:=ab (Fc (w0:=w) ⟨h1,h4,h3,h5,hb⟩ hA hc.e hc.a (by omega) (λz z1 z2 z3 z4 z5=>by
   have hx:=UU (jR hE).2.1 z1 z2;obtain⟨t1,t2⟩:=S5 hc.e hc.a hf aU hE hw z1 hx z3;exact⟨t2 z4,lP (t2 z4),ET hE (t2 z4) z5 hf aU (Bi z1) hw t1 hx⟩))
  clear hb HD h1 h2 h3 h4 h5 hA hE;go_wp2_with fail
  refine(uh HAG).mono ?_;rintro e w2 ⟨rfl,aU⟩;have HB:=ab aU;clear aU HAG;go_wp2_with fail
  go_ret;exact⟨rfl,uh HB⟩
theorem lifted(os:Go.Os)(started:os.Started)(H:Type)(enc:TypeId × Value->H):
  ReturnsInHanded {} Tryz.checked os 11 .any (Rows.framedSpec.pre6 enc prog Tryz.f11 Rows.framedRow.domain false) (Rows.framedSpec.post enc prog Tryz.f11 false true false false):=by
 refine returnsInHanded_of_change (C:=Tryz.checked) own started (by kernel_rfl) func11
  (ChangeSpec.witness6 (enc:=enc) (C:=Tryz.checked) false ⟨#[],#[.string ⟨#[]⟩],[]⟩ 8 (by kernel_rfl) (by kernel_rfl) (by kernel_rfl) (by kernel_rfl)) ?_
 intro W base args ds gs before agX hW arp _;have Pq:∀(j:Nat) t v,Tryz.f11.params[j]?=some t->args[j]?=some v->Value.okWide prog W .any base t v:=agX;have hW':=hW;obtain⟨p,q,BH,hV,rfl,hfz,c9⟩:=hW;have hA:DataW.TrodAll enc prog W 0 (λ_=>true) true Tryz.f11.params.toList args.toList ds p:=BH;rw[Tryz.params11]at hA Pq;obtain⟨v0,vs0,d0,ds0,p0,q0,aoT,rfl,rfl,h0,r0⟩:=trodAll_cons hA;obtain⟨rfl,rfl,rfl⟩:=trodAll_nil r0;obtain rfl:args=#[v0]:=by cases args;simp_all
 obtain⟨rfl,rfl⟩:=trodVars_none hV;obtain⟨s,rfl,rfl,rfl,hs⟩:=open_string underlying9 (Pq 0 9 v0 rfl rfl) h0;clear BH;simp only[append_nil]at hW';refine(walk s W).mono λe W' ⟨he,hb⟩=>?_;subst he;exact⟨_,rfl,_,_,_,[],[],[],hW',trodAll_cons_mk (shut_bool underlying4 _) trodAll_mk0,trodAll_cons_mk (shut_string underlying9 hs) trodAll_mk0,rfl,hb.frame _,λh=>by cases h⟩
theorem over:Rows.framedRow.holds Tryz.pinned (OpenSpec.ofChange Rows.framedSpec) :=
 OpenClaim.holds_of_wide 11 Tryz.f11 rfl rfl rfl rfl rfl rfl rfl ⟨rfl,rfl,rfl,rfl,rfl⟩ rfl rfl rfl rfl rfl (by kernel_rfl) func11 (by kernel_rfl)
  (of_decide_eq_true (by kernel_rfl)) (by unfold Func.isWrapper;first|(rw[if_pos (by decide +kernel)];kernel_rfl)|(rw[if_neg (by decide +kernel)];exact⟨rfl,rfl⟩))
  (λos started H enc _=>lifted os started H enc)
theorem framed_proved:Rows.FramedSaid:=over
#print axioms framed_proved
