/- What is proved here: plain facts and contracts that the claimed theorem stands on. No condition but those that each names. -/
import Derived.Test.YtckamaoibonjcaaGreatH28
namespace Go.Proofs.YtckamaoibonjcaaGreat
open Go.RowKit Go.Maps
set_option maxRecDepth 100000
set_option maxHeartbeats 2000000
variable {base n N:Nat} {wp:BL} {mo:Option Nat} {f:Int×Int->List (Tm N)} {sl:Int×Int->Value} {w:World}
def MC(base:Nat)(wp:BL)(mo:Option Nat)(n N:Nat)(f:Int×Int->List (Tm N))(sl:Int×Int->Value)(k:Int×Int)(l:List (Tm N))(w w':World):Prop:=
 ∃a c,gO base wp a (n+1) N (gY f k l) c w'/\bk (qX wp mo sl) w w'/\∀b,qX wp a c b->qX wp mo sl b\/w.heap.size<=b
theorem Fy:(Tryz.prog.info? 30).map (λi=>(i.zero,i.size,i.bytes))=some (some (.agg #[ab 0,ab 0,ae ⟨#[]⟩,.slice none 0 0]),4,56):=by kernel_rfl
theorem KQ(a:Nat)(W:World):(binOp .eql 63 (.map (some a)) (.map none)).run Tryz.prog W=.ok (.bool false) W:=by kernel_rfl
theorem KP(W:World):(binOp .eql 63 (.map none) (.map none)).run Tryz.prog W=.ok (.bool true) W:=by kernel_rfl
theorem fi{S:Nat->Prop}{W a:World}(c:bk S W a){b:Nat}(e:b<W.heap.size)(d:¬S b):∀o v,W.cell? ⟨b,o,none⟩=some v->a.cell? ⟨b,o,none⟩=some v:=λo _ f=>(c.cell o e d).trans f
theorem DL(wp:BL)(f:Nat)(j k:Int)(y0 y1:Int)(ys:ByteArray)(ya:Option Addr)(yl yc L sc:Nat)(sa:Option Addr)(xs:List Value)(base:Nat)(w wr:World)(aB:World->Nat->World->Prop)(ar:World->Prop)(bg:L<1000)(bi:base<=w.heap.size)(aq:wp.b<w.heap.size)(a7:(f<w.heap.size/\wp.b≠f/\wr=(w.alloc (.cells #[ab j,ab k] 164)).alloc (.cells #[ab y0,ab y1,ae ys,.slice ya yl yc] 30)/\(∀b,(Value.slice sa L sc).ownBlock=some b->b<w.heap.size/\b≠wp.b)/\Hid (w.cell? ⟨wp.b,wp.o,none⟩=some (.map (some f))))\/(f=w.heap.size+1+1/\wr=(((w.alloc (.cells #[ab j,ab k] 164)).alloc (.cells #[ab y0,ab y1,ae ys,.slice ya yl yc] 30)).alloc (.map #[] 0)).setCell ⟨wp.b,wp.o,none⟩ (.map (some f))/\(∀b,(Value.slice sa L sc).ownBlock=some b->b<w.heap.size/\b≠wp.b)/\Hid (sL wp none w)))(aY:Hid (∀W,bk (λb=>b=f) wr W->W.ownsRow base 30 4 (.slice sa L sc) L xs))(aQ:Hid (∀W,ai wr W->∃(A:Nat)(d:World),(Instr.mapEntry 63 (.map (some f)) (pk (j,k))).run Tryz.prog W=.ok (.tuple #[.slice sa L sc,goInt A]) d/\(bk (λb=>b=f) W d/\d.heap.size=W.heap.size/\aB W A d)))(aZ:Hid (∀W A d ad i g c,aB W A d->ai wr W->bk (λb=>b=f) W d->d.heap.size=W.heap.size->ai d ad->ad.grownBy i (Value.slice sa L sc).ownBlock->i.ownsRow base 30 4 (.slice (some ⟨g,0,none⟩) (L+1) c) (L+1) (xs++ [ab y0,ab y1,ae ys,.slice ya yl yc])->((Value.slice sa L sc).ownBlock=some g\/g=ad.heap.size)-> ∃m,(Instr.entryStore 63 (.map (some f)) (goInt A) (.slice (some ⟨g,0,none⟩) (L+1) c)).run Tryz.prog i=.ok () m/\(ar m/\bk (λb=>b=f) i m/\m.heap.size=i.heap.size))):ak 145 #[.pointer (some ⟨wp.b,wp.o,none⟩),.agg #[ab j,ab k],.agg #[ab y0,ab y1,ae ys,.slice ya yl yc]] w λe w'=>e=.returned (.tuple #[])/\ar w':=by
 obtain⟨E,aH,aN,aO,aP⟩:=bQ Fy;have N:Hid (Tryz.prog.info? 30=some E/\E.zero=some (.agg #[ab 0,ab 0,ae ⟨#[]⟩,.slice none 0 0])/\E.size=4/\E.bytes=56):=⟨aH,aN,aO,aP⟩;clear aH aN aO aP;rcases a7 with⟨an,ap,n,U,B⟩|⟨an,n,U,B⟩
 case' inl=>
  have af:=B.out;have aR:=KQ f;have P:Hid (∃h a,h=w.heap.size/\a=w.heap.size+1):=⟨_,_,rfl,rfl⟩;go_enter Tryz.func145,Tryz.ntmps145;go_wp2_with fail;obtain⟨h,a,y,z⟩:=P.out;rw[<-n,<-z,<-y];have aM:wr.heap.size=w.heap.size+2:=by rw[n];simp
  have au:Hid (ai w wr):=by
   rw[n];exact((am _ _).alloc (aj _) _).alloc (by simp) _
  have Z:Hid (wr.heap[h]?=some (.cells #[ab j,ab k] 164)):=by
   rw[n,y];exact(((am _ _).alloc (aj _) _).block w.heap.size (by simp)).trans (az w _)
  have aa:Hid (wr.heap[a]?=some (.cells #[ab y0,ab y1,ae ys,.slice ya yl yc] 30)):=by
   rw[n,z];have u:=az (w.alloc (.cells #[ab j,ab k] 164)) (.cells #[ab y0,ab y1,ae ys,.slice ya yl yc] 30);have e:(w.alloc (.cells #[ab j,ab k] 164)).heap.size=w.heap.size+1:=by simp
   rwa [e]at u
  have X:Hid (wr.cell? ⟨wp.b,wp.o,none⟩=some (.map (some f))):=(au.out.cell (p:=⟨wp.b,wp.o,none⟩) aq).trans af;clear au
 case' inr=>
  have af:w.cell? ⟨wp.b,wp.o,none⟩=some (.map none):=B.out.cell.1;have ag:sL wp none (((w.alloc (.cells #[ab j,ab k] 164)).alloc (.cells #[ab y0,ab y1,ae ys,.slice ya yl yc] 30)).alloc (.map #[] 0)):=B.out.kept (((((am w.heap.size w).alloc (aj _) _).alloc (by simp) _).alloc (by simp;omega) _).block wp.b aq);have be:(((w.alloc (.cells #[ab j,ab k] 164)).alloc (.cells #[ab y0,ab y1,ae ys,.slice ya yl yc] 30)).alloc (.map #[] 0)).frozen? ⟨wp.b,wp.o,none⟩=false:=ag.cell.2 _;have bf:(((w.alloc (.cells #[ab j,ab k] 164)).alloc (.cells #[ab y0,ab y1,ae ys,.slice ya yl yc] 30)).alloc (.map #[] 0)).cell? ⟨wp.b,wp.o,none⟩=some (.map none):=ag.cell.1;clear ag;have ap:wp.b≠f:=by omega
  have aR:=KP;have bj:= @run_makeMap Tryz.prog;have P:Hid (∃h a,h=w.heap.size/\a=w.heap.size+1):=⟨_,_,rfl,rfl⟩;go_enter Tryz.func145,Tryz.ntmps145;go_wp2_with fail;obtain⟨h,a,y,z⟩:=P.out;rw[<-an,<-n,<-z,<-y];have aM:wr.heap.size=w.heap.size+3:=by rw[n];simp[World.setCell]
  have ah:∀b,b≠wp.b->wr.heap[b]?=(((w.alloc (.cells #[ab j,ab k] 164)).alloc (.cells #[ab y0,ab y1,ae ys,.slice ya yl yc] 30)).alloc (.map #[] 0)).heap[b]? :=λb D=>by
   rw[n];have:wp.b≠b:=λe=>D e.symm;simp[World.setCell,bG,this]
  have Z:Hid (wr.heap[h]?=some (.cells #[ab j,ab k] 164)):=by
   rw[ah h (by omega),y];exact((((am _ _).alloc (aj _) _).alloc (by simp) _).block w.heap.size (by simp)).trans (az w _)
  have aa:Hid (wr.heap[a]?=some (.cells #[ab y0,ab y1,ae ys,.slice ya yl yc] 30)):=by
   rw[ah a (by omega),z];have u:=az (w.alloc (.cells #[ab j,ab k] 164)) (.cells #[ab y0,ab y1,ae ys,.slice ya yl yc] 30);have e:(w.alloc (.cells #[ab j,ab k] 164)).heap.size=w.heap.size+1:=by simp
   rw[e]at u;exact(((am _ _).alloc (aj _) _).block (w.heap.size+1) (by simp)).trans u
  have X:Hid (wr.cell? ⟨wp.b,wp.o,none⟩=some (.map (some f))):=by
   rw[n];exact(sL.set (mo':=some f) (B.out.kept (((((am w.heap.size w).alloc (aj _) (.cells #[ab j,ab k] 164)).alloc (by simp) (.cells #[ab y0,ab y1,ae ys,.slice ya yl yc] 30)).alloc (by simp;omega) (.map #[] 0)).block wp.b aq))).cell.1
  clear ah
 all_goals
  have aI:h<wr.heap.size:=by omega
  have aJ:a<wr.heap.size:=by omega
  have aK:wp.b<wr.heap.size:=by omega
  have a9:f<wr.heap.size:=by omega
  have bh:base<=wr.heap.size:=by omega
  have T:h≠f:=by omega
  have x:a≠f:=by omega
  have V:∀b,(Value.slice sa L sc).ownBlock=some b->b≠h/\b≠a/\b≠wp.b:=λb D=>⟨by have:=(U b D).1;omega,by have:=(U b D).1;omega,(U b D).2⟩;have O:Hid (∀W,ai wr W->W.cell? ⟨wp.b,wp.o,none⟩=some (.map (some f))/\(W.cell? ⟨h,0,none⟩=some (ab j)/\W.cell? ⟨h,1,none⟩=some (ab k))/\(W.cell? ⟨a,0,none⟩=some (ab y0)/\W.cell? ⟨a,1,none⟩=some (ab y1)/\W.cell? ⟨a,2,none⟩=some (ae ys)/\W.cell? ⟨a,3,none⟩=some (.slice ya yl yc))):=by
   intro W q;have aE:=(q.block h aI).trans Z.out;have R:=(q.block a aJ).trans aa.out;exact⟨(q.cell (p:=⟨wp.b,wp.o,none⟩) aK).trans X.out,⟨by simp[World.cell?,aE],by simp[World.cell?,aE]⟩,by simp[World.cell?,R],by simp[World.cell?,R],by simp[World.cell?,R],by simp[World.cell?,R]⟩
  have Y:Hid (∀C W d,bk C W d->wr.heap.size<=W.heap.size->¬C wp.b->¬C h->¬C a->(W.cell? ⟨wp.b,wp.o,none⟩=some (.map (some f))/\(W.cell? ⟨h,0,none⟩=some (ab j)/\W.cell? ⟨h,1,none⟩=some (ab k))/\(W.cell? ⟨a,0,none⟩=some (ab y0)/\W.cell? ⟨a,1,none⟩=some (ab y1)/\W.cell? ⟨a,2,none⟩=some (ae ys)/\W.cell? ⟨a,3,none⟩=some (.slice ya yl yc)))->
    d.cell? ⟨wp.b,wp.o,none⟩=some (.map (some f))/\(d.cell? ⟨h,0,none⟩=some (ab j)/\d.cell? ⟨h,1,none⟩=some (ab k))/\(d.cell? ⟨a,0,none⟩=some (ab y0)/\d.cell? ⟨a,1,none⟩=some (ab y1)/\d.cell? ⟨a,2,none⟩=some (ae ys)/\d.cell? ⟨a,3,none⟩=some (.slice ya yl yc))):=by
   rintro C W d l bl bb bc bd ⟨F,⟨G,H⟩,I,J,K,M⟩;have a2:=fi l (b:=wp.b) (by omega) bb;have aC:=fi l (b:=h) (by omega) bc;have Q:=fi l (b:=a) (by omega) bd;exact⟨a2 _ _ F,⟨aC _ _ G,aC _ _ H⟩,Q _ _ I,Q _ _ J,Q _ _ K,Q _ _ M⟩
  have aw:Hid (∀W d,ai wr W->bk (λb=>b=f) W d->d.cell? ⟨wp.b,wp.o,none⟩=some (.map (some f))/\(d.cell? ⟨h,0,none⟩=some (ab j)/\d.cell? ⟨h,1,none⟩=some (ab k))/\(d.cell? ⟨a,0,none⟩=some (ab y0)/\d.cell? ⟨a,1,none⟩=some (ab y1)/\d.cell? ⟨a,2,none⟩=some (ae ys)/\d.cell? ⟨a,3,none⟩=some (.slice ya yl yc))):=
   λW d q l=>Y.out _ W d l q.size ap T x (O.out W q)
  have aX:Hid (∀W d i,ai wr W->bk (λb=>b=f) W d->d.grownBy i (Value.slice sa L sc).ownBlock->i.cell? ⟨wp.b,wp.o,none⟩=some (.map (some f))/\(i.cell? ⟨h,0,none⟩=some (ab j)/\i.cell? ⟨h,1,none⟩=some (ab k))/\(i.cell? ⟨a,0,none⟩=some (ab y0)/\i.cell? ⟨a,1,none⟩=some (ab y1)/\i.cell? ⟨a,2,none⟩=some (ae ys)/\i.cell? ⟨a,3,none⟩=some (.slice ya yl yc))):=
   λW d i q l a8=>Y.out _ d i (dR a8) (ax q.size l.size) (λe=>(V _ e).2.2 rfl) (λe=>(V _ e).1 rfl) (λe=>(V _ e).2.1 rfl) (aw.out W d q l)
  have r:Hid (ai wr (wr.alloc (.cells #[ab y0,ab y1,ae ys,.slice ya yl yc] 30)).drew):=(show Below _ _ _ by go_grown);have aA:Hid ((wr.alloc (.cells #[ab y0,ab y1,ae ys,.slice ya yl yc] 30)).drew.heap.size=wr.heap.size+1):=(show _=_ by simp[World.drew]);have aS:Hid (∀d,bk (λb=>b=f) (wr.alloc (.cells #[ab y0,ab y1,ae ys,.slice ya yl yc] 30)).drew d->bk (λb=>b=f) wr d):=λd l=>bk.trans (aD r.out _) l λ_ _ e=>e
  have aT:Hid (∀d,bk (λb=>b=f) (wr.alloc (.cells #[ab y0,ab y1,ae ys,.slice ya yl yc] 30)).drew d->d.heap[wr.heap.size]?=some (.cells #[ab y0,ab y1,ae ys,.slice ya yl yc] 30)):=
   λd l=>(l.block wr.heap.size (by rw[aA.out];omega) (by omega)).trans (az wr _)
  have aW:Hid (∀i m,(i.cell? ⟨wp.b,wp.o,none⟩=some (.map (some f))/\(i.cell? ⟨h,0,none⟩=some (ab j)/\i.cell? ⟨h,1,none⟩=some (ab k))/\(i.cell? ⟨a,0,none⟩=some (ab y0)/\i.cell? ⟨a,1,none⟩=some (ab y1)/\i.cell? ⟨a,2,none⟩=some (ae ys)/\i.cell? ⟨a,3,none⟩=some (.slice ya yl yc)))->bk (λb=>b=f) i m->(m.cell? ⟨wp.b,wp.o,none⟩=some (.map (some f))/\(m.cell? ⟨h,0,none⟩=some (ab j)/\m.cell? ⟨h,1,none⟩=some (ab k))/\(m.cell? ⟨a,0,none⟩=some (ab y0)/\m.cell? ⟨a,1,none⟩=some (ab y1)/\m.cell? ⟨a,2,none⟩=some (ae ys)/\m.cell? ⟨a,3,none⟩=some (.slice ya yl yc)))):=by
   rintro i m ⟨F,⟨G,H⟩,I,J,K,M⟩ l;have lt:=λ(b o:Nat)(v:Value)(u:i.cell? ⟨b,o,none⟩=some v)=>fh i ⟨b,o,none⟩ u;exact⟨fi l (lt _ _ _ F) ap _ _ F,⟨fi l (lt _ _ _ G) T _ _ G,fi l (lt _ _ _ H) T _ _ H⟩,fi l (lt _ _ _ I) x _ _ I,fi l (lt _ _ _ J) x _ _ J,fi l (lt _ _ _ K) x _ _ K,fi l (lt _ _ _ M) x _ _ M⟩
  obtain⟨F,⟨G,H⟩,I,J,K,M⟩:=O.out wr (am _ _);obtain⟨A,d,a5,S⟩:=aQ.out _ r.out;have s:=ao S;have aU:=ao (aw.out _ _ r.out S.1);have a1:=ao (S.2.1.trans aA.out);simp only[pk,goInt]at a5;clear S;clear an y z n P aM X Z aa Y af aI aJ aK a9 T x V;go_wp2_with fail
  go_region_held3 (λW=>W.cell? ⟨wp.b,wp.o,none⟩=some (.map (some f))/\(W.cell? ⟨h,0,none⟩=some (ab j)/\W.cell? ⟨h,1,none⟩=some (ab k))/\(W.cell? ⟨a,0,none⟩=some (ab y0)/\W.cell? ⟨a,1,none⟩=some (ab y1)/\W.cell? ⟨a,2,none⟩=some (ae ys)/\W.cell? ⟨a,3,none⟩=some (.slice ya yl yc)))
   (first|(go_keep;done)|exact O.out _ (am _ _).drew|exact O.out _ r.out|exact aU.out|exact av.out|exact aV.out) ((first
    | (refine step_append_lies _ rfl _ _ 28 rfl base 30 E _ 4 56 Tryz.underlying28 N.out.1 N.out.2.1 N.out.2.2.1 N.out.2.2.2 rfl (by decide) (.slice sa L sc) L xs (by simp[Act.eval]) (aY.out _ (aS.out _ s.out.1)) ⟨wr.heap.size,0,none⟩ 1 1 [ab y0,ab y1,ae ys,.slice ya yl yc] (by simp[Act.eval]) rfl (World.news_of_block (cs:= #[ab y0,ab y1,ae ys,.slice ya yl yc]) (t:=30) (fr:=(0,0)) (aT.out _ s.out.1)) (by simp[Value.oneCell']) (by decide) (by unfold maxLen;omega) (by omega) (by have:=a1.out;omega) _ rfl ?_;intro a4 a3 i aL al aG ba;have a0:=aZ.out _ _ _ _ _ a4 a3 s.out.2.2 r.out s.out.1 s.out.2.1 (am _ _) al aL aG;obtain⟨m,a6,aF⟩:=a0;have ay:=ao aF;simp only[goInt]at a6;have av:=ao (aX.out _ _ _ r.out s.out.1 al);have aV:=ao (aW.out _ _ av.out ay.out.2.1);clear aL al aG ba aF)))
  exact dO (v:=.tuple #[]) (by simp[results]) rfl ⟨rfl,ay.out.1⟩
variable {base n N:Nat} {wp:BL} {mo:Option Nat} {f:Int×Int->List (Tm N)} {sl:Int×Int->Value} {w:World}
theorem ns.at{v:Value}{l:List (Tm N)}(d:ns base N v l w):∃a c,v=.slice a l.length c/\w.ownsRow base 30 4 (.slice a l.length c) l.length (de N l):=by
 obtain⟨a,c,b⟩:=d.sliced;refine⟨a,c,b,?_⟩;rw[<-b];exact d
theorem EA(y:Tm (N+1)):uF (fX (N+1) y)=[ab y.1.1,ab y.1.2.1,ae y.1.2.2,.slice y.2.1.1 y.2.2.length y.2.1.2]:=rfl
theorem vo{e:Nat}(h:gO base wp (some e) n N f sl w):wp.b≠e:=by
 intro g;obtain⟨_,i,c⟩:=h;rcases c with⟨c,_⟩|⟨m,a,j⟩
 ·cases c
 ·injection a with a;subst a g;obtain⟨k,⟨es,l,d,_⟩,_⟩:=j.map;rw[i.2]at d;cases d
theorem yX(c:gO base wp mo n N f sl w){k:Int×Int}(g:I2 k):(sl k).ownBlock≠some wp.b:=by
 intro d;obtain⟨h,a⟩:=dS (c.row g) wp.b d;rw[c.2.1.2]at a;injection a with a;injection a with _ e _;exact c.2.1.1.2 e
theorem Kq{f:Int×Int->List (Tm (N+1))}(d:gO base wp mo n (N+1) f sl w){k:Int×Int}(i:I2 k)(y:Tm (N+1))(af:n<999999)(W:(f k).length<1000):ak 145 #[.pointer (some ⟨wp.b,wp.o,none⟩),pk k,df (N+1) y] w λe w'=>e=.returned (.tuple #[])/\MC base wp mo n (N+1) f sl k (f k++ [y]) w w':=by
 have v:=d.lt wp.b (ag rfl);rcases d.2.2 with⟨rfl,rfl,rfl⟩|⟨m,rfl,D⟩
 ·obtain⟨wr,j⟩:∃wr,wr=(((w.alloc (.cells #[ab k.1,ab k.2] 164)).alloc (.cells #[ab y.1.1,ab y.1.2.1,ae y.1.2.2,.slice y.2.1.1 y.2.2.length y.2.1.2] 30)).alloc (.map #[] 0)).setCell ⟨wp.b,wp.o,none⟩ (.map (some (w.heap.size+1+1))):=⟨_,rfl⟩;have Y:wr.heap.size=w.heap.size+3:=by rw[j];simp[World.setCell]
  have T:bk (λb=>b=wp.b) w wr:=by
   rw[j];refine bk.trans (aD (((((am w.heap.size w).alloc (aj _) _).alloc (by simp) _).alloc (by simp;omega) _)) _) (bt _ wp.b wp.o _) λ_ _ e=>e
  have Z:sL wp (some (w.heap.size+1+1)) wr:=by
   rw[j];exact(d.2.1.kept (((((am w.heap.size w).alloc (aj _) (.cells #[ab k.1,ab k.2] 164)).alloc (by simp) (.cells #[ab y.1.1,ab y.1.2.1,ae y.1.2.2,.slice y.2.1.1 y.2.2.length y.2.1.2] 30)).alloc (by simp;omega) (.map #[] 0)).block wp.b v.2)).set
  have l:GM base (w.heap.size+1+1) n (N+1) (λ_=> []) (λ_=>lM) wr:=by
   have P:=GM.new ((w.alloc (.cells #[ab k.1,ab k.2] 164)).alloc (.cells #[ab y.1.1,ab y.1.2.1,ae y.1.2.2,.slice y.2.1.1 y.2.2.length y.2.1.2] 30)) (N+1);have e:((w.alloc (.cells #[ab k.1,ab k.2] 164)).alloc (.cells #[ab y.1.1,ab y.1.2.1,ae y.1.2.2,.slice y.2.1.1 y.2.2.length y.2.1.2] 30)).heap.size=w.heap.size+1+1:=by simp
   rw[e]at P
   have Q:=(P.kee (bt _ wp.b wp.o (.map (some (w.heap.size+1+1)))) λb a e=>by
    rcases a with a|⟨x,_,a⟩
    ·omega
    ·simp[lM,Value.ownBlock]at a)
   rw[<-j]at Q;exact(Q.rebase (by omega)).mono (aF _)
  refine(DL wp (w.heap.size+1+1) k.1 k.2 y.1.1 y.1.2.1 y.1.2.2 y.2.1.1 y.2.2.length y.2.1.2 0 0 none [] base w wr (λh r p=>Mp base (w.heap.size+1+1) n (N+1) (λ_=> []) (λ_=>lM) k r h p) (λw'=>MC base wp none n (N+1) (λ_=> []) (λ_=>lM) k ([]++ [y]) w w') (by omega) (by omega) v.2 (ah ⟨rfl,j,λb a=>by simp[Value.ownBlock]at a,d.2.1⟩) ?_ ?_ ?_).mono λe w' d=>d
  ·intro h g;exact⟨rfl,ag ⟨rfl,rfl⟩⟩
  ·intro h g;exact l.open i (by omega) g
  ·intro h r p R ad S c C g F J B t H s;obtain⟨O,I,E,G,K⟩:=Mp.done l i C g F J B t (y:=y) (L:=0) rfl (by simpa [de,cm,EA]using H) s;refine⟨O,I,?_,G,K⟩;obtain⟨aa,z,q,A⟩:=E;have M:¬L9 (w.heap.size+1+1) (λ_=>lM) wp.b:=by
    rintro (e|⟨x,_,e⟩)
    ·omega
    ·simp[lM,Value.ownBlock]at e
   refine⟨some (w.heap.size+1+1),_,⟨d.1,Z.kept (q.block wp.b (by omega) M),ah ⟨_,rfl,z⟩⟩,?_,λb a=>?_⟩
   ·refine bk.trans (T.mono λb _ e=>ag e) q λb a e=>?_;rcases e with e|⟨x,_,e⟩
    ·omega
    ·simp[lM,Value.ownBlock]at e
   ·rcases a with a|a|a
    ·exact ag (ag a)
    ·injection a with a;exact ah (by omega)
    ·rcases A b (ah a)with(e|⟨x,_,e⟩)|e
     ·exact ah (by omega)
     ·simp[lM,Value.ownBlock]at e
     ·exact ah (by omega)
 ·obtain⟨sa,sc,u,al⟩:=(D.row k i).at;have X:=D.lt m (ag rfl);obtain⟨wr,j⟩:∃wr,wr=(w.alloc (.cells #[ab k.1,ab k.2] 164)).alloc (.cells #[ab y.1.1,ab y.1.2.1,ae y.1.2.2,.slice y.2.1.1 y.2.2.length y.2.1.2] 30):=⟨_,rfl⟩;have a:ai w wr:=by
   rw[j];exact((am _ _).alloc (aj _) _).alloc (by simp) _
  have Y:wr.heap.size=w.heap.size+2:=by rw[j];simp
  have l:GM base m n (N+1) f sl wr:=D.kee (aD a λ_=>False) λ_ _ U=>U;refine(DL wp m k.1 k.2 y.1.1 y.1.2.1 y.1.2.2 y.2.1.1 y.2.2.length y.2.1.2 (f k).length sc sa (de (N+1) (f k)) base w wr (λh r p=>Mp base m n (N+1) f sl k r h p) (λw'=>MC base wp (some m) n (N+1) f sl k (f k++ [y]) w w') W (by omega) v.2 (ag ⟨X.2,vo d,j,λb a=>?_,d.cell.1⟩) ?_ ?_ ?_).mono λe w' d=>d
  ·rw[<-u]at a;exact⟨((d.row i).lt b a).2,λe=>yX d i (by rw[a,e])⟩
  ·intro h g;rw[<-u];exact aY (l.row k i) g λb a e=>l.ne i (by rw[a,e])
  ·intro h g;rw[<-u];exact l.open i (by omega) g
  ·intro h r p R ad S c C g F J B t H s;rw[<-u]at t s;obtain⟨O,I,E,G,K⟩:=Mp.done l i C g F J B t (y:=y) (L:=(f k).length) rfl (by simpa [EA]using H) s;refine⟨O,I,?_,G,K⟩;obtain⟨aa,z,q,A⟩:=E;have M:¬L9 m sl wp.b:=by
    rintro (e|⟨x,V,e⟩)
    ·exact vo d e
    ·exact yX d V e
   refine⟨some m,_,⟨d.1,(d.2.1.kept (a.block wp.b v.2)).kept (q.block wp.b (by omega) M),ah ⟨_,rfl,z⟩⟩,?_,λb a=>?_⟩
   ·exact bk.trans (aD a _) q λb _ e=>D9 e
   ·rcases a with a|a|a
    ·exact ag (ag a)
    ·injection a with a;exact ag (ah (ag (by rw[a])))
    ·rcases A b (ah a)with e|e
     ·exact ag (D9 e)
     ·exact ah (by omega)
def gF(b c:Bool)(a:Int)(cl:Bool)(L:Nat):Int:=if b=false\/c=false then 1 else if a≠0 then a else if cl=false then 5 else if 20<=L then 2 else 0
theorem DF(wp:BL)(a b:Int)(k l:Int)(s:ByteArray)(h:Option Addr)(j i:Nat)(v g:Bool)(d:Int)(cl:Bool)(L:Nat)(w:World)(C:Int->Int->ByteArray->Option Addr->Nat->Nat->World->World->Prop)(N:World->Prop)(aq:L<=1000)(S:Hid (∀W,ak 143 #[ab a] W λe w'=>e=.returned (.bool v)/\w'=W))(T:Hid (∀W,ak 143 #[ab b] W λe w'=>e=.returned (.bool g)/\w'=W))(Z:Hid (∀W,ai w W->ak 51 #[.agg #[ab k,ab l,ae s,.slice h j i]] W λe w'=>e=.returned (ab d)/\ai W w'))(aa:Hid (∀W,ai w W->ak 52 #[.agg #[ab k,ab l,ae s,.slice h j i]] W λe w'=>e=.returned (.bool cl)/\ai W w'))(ad:Hid (∀W,ai w W->ak 144 #[.pointer (some ⟨wp.b,wp.o,none⟩),ab a,ab b] W λe w'=>e=.returned (ab L)/\w'=W))(X:Hid (∀W,d=0->ai w W->ak 54 #[.agg #[ab k,ab l,ae s,.slice h j i]] W λe w'=>∃n p u q t r,e=.returned (.agg #[ab n,ab p,ae u,.slice q t r])/\Hid (C n p u q t r W w')))(U:Hid (∀n p u q t r W w1,gF v g d cl L=0->C n p u q t r W w1->ai w W->ak 145 #[.pointer (some ⟨wp.b,wp.o,none⟩),.agg #[ab a,ab b],.agg #[ab n,ab p,ae u,.slice q t r]] w1 λe w'=>e=.returned (.tuple #[])/\Hid (N w'))):ak 107 #[.pointer (some ⟨wp.b,wp.o,none⟩),ab a,ab b,.agg #[ab k,ab l,ae s,.slice h j i]] w λe w'=>e=.returned (ab (gF v g d cl L))/\(gF v g d cl L≠0->ai w w')/\(gF v g d cl L=0->N w'):=by
 have Q:Hid (∃m f,m=w.alloc (.cells #[ab k,ab l,ae s,.slice h j i] 30)/\f=w.heap.size):=⟨_,_,rfl,rfl⟩;go_enter Tryz.func107,Tryz.ntmps107;go_wp2_with fail;obtain⟨m,f,B,M⟩:=Q.out;rw[<-B,<-M];have x:Hid (ai w m):=by
  rw[B];exact(am _ _).alloc (aj _) _
 have P:Hid (m.heap[f]?=some (.cells #[ab k,ab l,ae s,.slice h j i] 30)/\f<m.heap.size):=by
  rw[B,M];exact⟨az w _,by simp⟩
 have I:Hid (∀W,ai m W->W.cell? ⟨f,0,none⟩=some (ab k)/\W.cell? ⟨f,1,none⟩=some (ab l)/\W.cell? ⟨f,2,none⟩=some (ae s)/\W.cell? ⟨f,3,none⟩=some (.slice h j i)):=by
  intro W al;have c:=(al.block f P.out.2).trans P.out.1;exact⟨af c 0,af c 1,af c 2,af c 3⟩
 clear B M Q;refine(S.out m).mono ?_;rintro e w1 ⟨rfl,rfl⟩;cases v
 ·go_wp2_with fail
  go_ret
  have e:gF false g d cl L=1:=by simp[gF]
  rw[e];exact⟨rfl,λ_=>x.out,λc=>by cases c⟩
 ·go_wp2_with fail;refine(T.out _).mono ?_;rintro e au ⟨rfl,rfl⟩;cases g
  ·go_wp2_with fail
   go_ret
   have e:gF true false d cl L=1:=by simp[gF]
   rw[e];exact⟨rfl,λ_=>x.out,λc=>by cases c⟩
  ·obtain⟨D,E,F,G⟩:=I.out _ (am _ _);go_wp2_with fail;refine(Z.out _ x.out).mono ?_;rintro e av ⟨rfl,J⟩;have H:=ao J;have A:=ao (x.out.trans (J.mono x.out.size));clear J D E F G;by_cases z:d=0;rotate_left
   ·have ar:¬(0:Int)=d:=λe=>z e.symm;go_wp2_with fail
    go_ret
    have e:gF true true d cl L=d:=by simp[gF,z]
    rw[e];exact⟨rfl,λ_=>A.out,λc=>absurd c z⟩
   ·obtain⟨D,E,F,G⟩:=I.out _ H.out;have ap:=ao z;subst z;go_wp2_with fail;refine(aa.out _ A.out).mono ?_;rintro e aw ⟨rfl,K⟩;have V:=ao (H.out.trans (K.mono H.out.size));have y:=ao (A.out.trans (K.mono A.out.size));clear K D E F G;cases cl
    ·go_wp2_with fail
     go_ret
     have e:gF true true 0 false L=5:=by simp[gF]
     rw[e];exact⟨rfl,λ_=>y.out,λc=>by cases c⟩
    ·go_wp2_with fail;refine(ad.out _ y.out).mono ?_;rintro e ax ⟨rfl,rfl⟩;by_cases R:20<=L
     ·have ah:(20:Int)<=(L:Int):=by omega
      go_wp2_with fail
      go_ret
      have e:gF true true 0 true L=2:=by simp[gF,R]
      rw[e];exact⟨rfl,λ_=>y.out,λc=>by cases c⟩
     ·have ah:¬(20:Int)<=(L:Int):=by omega
      have O:Hid (gF true true 0 true L=0):=(show gF true true 0 true L=0 by simp[gF,R]);obtain⟨D,E,F,G⟩:=I.out _ V.out;go_wp2_with fail;refine(X.out _ (by simp) y.out).mono ?_;rintro e an ⟨n,p,u,q,t,r,rfl,ag⟩;go_wp2_with fail;refine(U.out n p u q t r _ an O.out ag.out y.out).mono ?_;rintro e ay ⟨rfl,Y⟩;go_wp2_with fail
      go_ret
      rw[O.out];exact⟨rfl,λc=>absurd rfl c,λ_=>Y.out⟩
theorem DE{n:Nat}{x:Tm n}(a:bq n x=0):aA ⟨n,x⟩:=by
 rw[aJ];rw[<-fZ]at a;unfold vH at a;split at a
 ·rename_i b;simpa using b
 ·cases a
variable {base n N:Nat} {wp:BL} {mo:Option Nat} {f:Int×Int->List (Tm (N+1))} {sl:Int×Int->Value} {w:World}
def Ln(a:Int):Bool:=decide (1<=a) && decide (a<=99)
def nb(N:Nat)(a b:Int)(x:Tm (N+1))(L:Nat):Int:=gF (Ln a) (Ln b) (bq (N+1) x) (aH (N+1) x) L
def G8(base:Nat)(wp:BL)(mo:Option Nat)(n N:Nat)(f:Int×Int->List (Tm (N+1)))(sl:Int×Int->Value)(k:Int×Int)(x:Tm (N+1))(w w':World):Prop:=
 ∃a c d,aw (N+1) a (N+1) x=true/\gO base wp c (n+1) (N+1) (gY f k (f k++ [a])) d w'/\bk (qX wp mo sl) w w'/\(∀b,qX wp c d b->qX wp mo sl b\/w.heap.size<=b)/\In w'.heap.size w' (N+1) a/\bZ (λb=>w.heap.size<=b/\¬qX wp c d b) (N+1) a
theorem Jw(i:gO base wp mo n (N+1) f sl w){a b:Int}(p:I2 (a,b))(x:Tm (N+1))(m:In w.heap.size w (N+1) x)(D:(av (N+1) x).length<=2097152)(H:n<999999)(G:(f (a,b)).length<=1000):ak 107 #[.pointer (some ⟨wp.b,wp.o,none⟩),ab a,ab b,df (N+1) x] w λe w'=>e=.returned (ab (nb N a b x (f (a,b)).length))/\(nb N a b x (f (a,b)).length≠0->ai w w')/\(nb N a b x (f (a,b)).length=0->G8 base wp mo n N f sl (a,b) x w w'):=by
 refine DF wp a b x.1.1 x.1.2.1 x.1.2.2 x.2.1.1 x.2.2.length x.2.1.2 (Ln a) (Ln b) (bq (N+1) x) (aH (N+1) x) (f (a,b)).length w
  (λu v B y A z g w'=>∃c:Tm (N+1),(u=c.1.1/\v=c.1.2.1/\B=c.1.2.2/\y=c.2.1.1/\A=c.2.2.length/\z=c.2.1.2)/\ai g w'/\In w'.heap.size w' (N+1) c/\bZ (λM=>g.heap.size<=M) (N+1) c/\aw (N+1) c (N+1) x=true)
  (λw'=>G8 base wp mo n N f sl (a,b) x w w') G (λg=>Eh a g) (λg=>Eh b g) (λg d=>?_) (λg d=>?_) (λg d=>?_) (λg F d=>?_) ?_
 ·exact dB (N+1) x w.heap.size g (m.below d) d.size D
 ·exact im (N+1) x w.heap.size g (m.below d) d.size
 ·exact G0 (i.later d) p
 ·refine(gS (N+1) x w.heap.size g (m.below d) d.size (DE F)).mono ?_;rintro e w' ⟨c,rfl,I⟩;exact⟨c.1.1,c.1.2.1,c.1.2.2,c.2.1.1,c.2.2.length,c.2.1.2,rfl,⟨c,⟨rfl,rfl,rfl,rfl,rfl,rfl⟩,I.out⟩⟩
 ·rintro u v B y A z g P h ⟨c,⟨rfl,rfl,rfl,rfl,rfl,rfl⟩,E,q,r,J⟩ d;have l:ai w P:=d.trans (E.mono d.size);have C:(f (a,b)).length<1000:=by
   by_cases Q:20<=(f (a,b)).length
   ·exfalso;unfold gF at h;split at h
    ·cases h
    ·split at h
     ·contradiction
     ·split at h
      ·cases h
      ·first|cases h|(split at h<;>first|cases h|contradiction)
   ·omega
  refine(Kq (i.later l) p c H C).mono ?_;rintro e w' ⟨rfl,L,O,K,s,t⟩;refine⟨rfl,c,L,O,J,K,bk.trans (aD l _) s λ_ _ e=>e,λb j=>?_,?_,?_⟩
  ·rcases t b j with e|e
   ·exact ag e
   ·exact ah (ax l.size e)
  ·refine q.kee s (r.mono λb j k=>?_);have:=(i.lt b k).2;have:=d.size;omega
  ·refine(In.offB r q).mono λb j=>⟨ax d.size j.1,λk=>?_⟩;rcases t b k with e|e
   ·have:=(i.lt b e).2;have:=d.size;omega
   ·omega
theorem Gx(wp:BL)(mo:Option Nat)(a b:Int)(w:World)(F:wp.b<w.heap.size)(y:Hid (w.cell? ⟨wp.b,wp.o,none⟩=some (.map mo)))(z:Hid (∀W,ai w W->(Instr.lookup 63 (.map mo) (.agg #[ab a,ab b]) false).run Tryz.prog W=.ok (.slice none 0 0) W)):ak 48 #[.pointer (some ⟨wp.b,wp.o,none⟩),ab a,ab b] w λe w'=>e=.returned (.tuple #[.agg #[ab 0,ab 0,ae ⟨#[]⟩,.slice none 0 0],ab 4])/\ai w w':=by
 have t:=y.out;have s:Hid (∃wr c d,wr=(w.alloc (.cells #[ab 0,ab 0,ae ⟨#[]⟩,.slice none 0 0] 30)).alloc (.cells #[ab a,ab b] 164)/\c=w.heap.size/\d=w.heap.size+1):=⟨_,_,_,rfl,rfl,rfl⟩;go_enter Tryz.func48,Tryz.ntmps48;go_wp2_with fail;obtain⟨wr,c,d,f,l,m⟩:=s.out;rw[<-f,<-m,<-l];have E:wr.heap.size=w.heap.size+2:=by rw[f];simp
 have HB:Hid (ai w wr):=by
  rw[f];exact((am _ _).alloc (aj _) _).alloc (by simp) _
 have A:Hid (wr.heap[c]?=some (.cells #[ab 0,ab 0,ae ⟨#[]⟩,.slice none 0 0] 30)):=by
  rw[f,l];exact(((am _ _).alloc (aj _) _).block w.heap.size (by simp)).trans (az w _)
 have B:Hid (wr.heap[d]?=some (.cells #[ab a,ab b] 164)):=by
  rw[f,m];have C:=az (w.alloc (.cells #[ab 0,ab 0,ae ⟨#[]⟩,.slice none 0 0] 30)) (.cells #[ab a,ab b] 164);have e:(w.alloc (.cells #[ab 0,ab 0,ae ⟨#[]⟩,.slice none 0 0] 30)).heap.size=w.heap.size+1:=by simp
  rwa [e]at C
 have k:Hid (c<wr.heap.size/\d<wr.heap.size/\wp.b<wr.heap.size/\w.heap.size<=c/\w.heap.size<=d/\wp.b<w.heap.size):=(show _/\_ by omega);have r:Hid (∀W,ai wr W->W.cell? ⟨wp.b,wp.o,none⟩=some (.map mo)/\W.cell? ⟨d,0,none⟩=some (ab a)/\W.cell? ⟨d,1,none⟩=some (ab b)):=by
  intro W j;have u:=(j.block d k.out.2.1).trans B.out;exact⟨((j.cell (p:=⟨wp.b,wp.o,none⟩) k.out.2.2.1).trans (HB.out.cell (p:=⟨wp.b,wp.o,none⟩) F)).trans t,af u 0,af u 1⟩
 have q:Hid (ai wr wr.drew):=(am _ _).drew;have n:Hid (∀W,ai wr W->ai w W):=λW j=>HB.out.trans (j.mono HB.out.size);have O:=z.out _ (n.out _ q.out);obtain⟨P,Q,R⟩:=r.out wr (am _ _);clear f l m s E t;go_region_held3 (λW=>W.cell? ⟨wp.b,wp.o,none⟩=some (.map mo)/\W.cell? ⟨d,0,none⟩=some (ab a)/\W.cell? ⟨d,1,none⟩=some (ab b)) (first|(go_keep;done)|exact r.out _ q.out) (fail);have g:=A.out;have G:wr.cell? ⟨c,0,none⟩=some (ab 0):=af g 0;have H:wr.cell? ⟨c,1,none⟩=some (ab 0):=af g 1;have I:wr.cell? ⟨c,2,none⟩=some (ae ⟨#[]⟩):=af g 2;have J:wr.cell? ⟨c,3,none⟩=some (.slice none 0 0):=af g 3;have h:∀x,wr.frozen? ⟨c,x,none⟩=false:=λx=>by simp[World.frozen?,g]
 have K:=h 0;have L:=h 1;have M:=h 2;have N:=h 3;clear h g;have i:=ao k.out.2.2.2.1;go_wp2_with fail;refine ar (v:=.tuple #[.agg #[ab 0,ab 0,ae ⟨#[]⟩,.slice none 0 0],ab 4]) (by simp[results,Tryz.results48,go_sem,G,H,I,J]) rfl ⟨rfl,?_⟩;have D:=n.out _ (am _ _);exact((((D.setCell i.out _).setCell i.out _).setCell i.out _).setCell i.out _).drew
theorem wZ(wp:BL)(i g c m:Nat)(y0 y1:Int)(ys:ByteArray)(ya:Option Addr)(yl yc:Nat)(a b:Int)(w:World)(G:World->Prop)(R:World->World->Prop)(aZ:wp.b<w.heap.size)(M:g<w.heap.size)(ba:i<w.heap.size)(aW:wp.b≠i)(aV:wp.b≠g)(aG:Hid (w.cell? ⟨wp.b,wp.o,none⟩=some (.map (some i))))(aq:Hid (∀W,ai w W->(Instr.lookup 63 (.map (some i)) (.agg #[ab a,ab b]) false).run Tryz.prog W=.ok (.slice (some ⟨g,0,none⟩) (m+1) c) W))(aM:Hid (w.cell? ⟨g,0,none⟩=some (ab y0)/\w.cell? ⟨g,1,none⟩=some (ab y1)/\w.cell? ⟨g,2,none⟩=some (ae ys)/\w.cell? ⟨g,3,none⟩=some (.slice ya yl yc)))(aT:(m=0/\Hid (∀W,ai w W->∃w',(∀ty,(Builtin.delete_ #[63,164] ty #[.map (some i),.agg #[ab a,ab b]]).run Tryz.prog W=.ok (.tuple #[]) w')/\bk (λb=>b=i) W w'/\w'.heap.size=W.heap.size/\∀w2,Below w.heap.size w' w2->G w2))\/(1<=m/\m<=1000/\Hid (∀W,ai w W->ak 77 #[.slice (some ⟨g,0,none⟩) (m+1) c,ab 0,ab 1] W λe w'=>e=.returned (.slice (some ⟨g,0,none⟩) m c)/\Hid (W.grownBy w' (some g)/\R W w'))/\Hid (∀W H,R W H->ai w W->W.grownBy H (some g)->∃w',(Instr.mapUpdate 63 (.map (some i)) (.agg #[ab a,ab b]) (.slice (some ⟨g,0,none⟩) m c)).run Tryz.prog H=.ok () w'/\bk (λb=>b=i) H w'/\∀w2,Below w.heap.size w' w2->G w2))):ak 48 #[.pointer (some ⟨wp.b,wp.o,none⟩),ab a,ab b] w λe w'=>e=.returned (.tuple #[.agg #[ab y0,ab y1,ae ys,.slice ya yl yc],ab 0])/\G w':=by
 have aA:=aG.out;have ax:Hid (∃wr f h,wr=(w.alloc (.cells #[ab 0,ab 0,ae ⟨#[]⟩,.slice none 0 0] 30)).alloc (.cells #[ab a,ab b] 164)/\f=w.heap.size/\h=w.heap.size+1):=⟨_,_,_,rfl,rfl,rfl⟩;go_enter Tryz.func48,Tryz.ntmps48;go_wp2_with fail;obtain⟨wr,f,h,u,S,T⟩:=ax.out;rw[<-u,<-T,<-S];have aY:wr.heap.size=w.heap.size+2:=by rw[u];simp
 have HB:Hid (ai w wr):=by
  rw[u];exact((am _ _).alloc (aj _) _).alloc (by simp) _
 have aJ:Hid (wr.heap[f]?=some (.cells #[ab 0,ab 0,ae ⟨#[]⟩,.slice none 0 0] 30)):=by
  rw[u,S];exact(((am _ _).alloc (aj _) _).block w.heap.size (by simp)).trans (az w _)
 have aw:Hid (wr.heap[h]?=some (.cells #[ab a,ab b] 164)):=by
  rw[u,T];have J:=az (w.alloc (.cells #[ab 0,ab 0,ae ⟨#[]⟩,.slice none 0 0] 30)) (.cells #[ab a,ab b] 164);have e:(w.alloc (.cells #[ab 0,ab 0,ae ⟨#[]⟩,.slice none 0 0] 30)).heap.size=w.heap.size+1:=by simp
  rwa [e]at J
 have x:Hid (f<wr.heap.size/\h<wr.heap.size/\wp.b<wr.heap.size/\w.heap.size<=f/\w.heap.size<=h/\wp.b<w.heap.size):=(show _/\_ by omega);have Q:Hid (∀W,ai wr W->W.cell? ⟨wp.b,wp.o,none⟩=some (.map (some i))/\W.cell? ⟨h,0,none⟩=some (ab a)/\W.cell? ⟨h,1,none⟩=some (ab b)):=by
  intro W s;have C:=(s.block h x.out.2.1).trans aw.out;exact⟨((s.cell (p:=⟨wp.b,wp.o,none⟩) x.out.2.2.1).trans (HB.out.cell (p:=⟨wp.b,wp.o,none⟩) aZ)).trans aA,af C 0,af C 1⟩
 have an:Hid (ai wr wr.drew):=(am _ _).drew;have al:Hid (∀W,ai wr W->ai w W):=λW s=>HB.out.trans (s.mono HB.out.size);have aU:=aq.out _ (al.out _ an.out);obtain⟨aD,aE,aF⟩:=Q.out wr (am _ _);clear u S T ax aY aA;go_region_held3 (λW=>W.cell? ⟨wp.b,wp.o,none⟩=some (.map (some i))/\W.cell? ⟨h,0,none⟩=some (ab a)/\W.cell? ⟨h,1,none⟩=some (ab b)) (first|(go_keep;done)|exact Q.out _ an.out) (fail);obtain⟨U,V,X,Y⟩:=aM.out;have B:=ap HB.out;replace U:=(B _ _ M).trans U;replace V:=(B _ _ M).trans V;replace X:=(B _ _ M).trans X;replace Y:=(B _ _ M).trans Y;clear B;rcases aT with⟨rfl,O⟩|⟨a8,a9,O,aK⟩
 case' inl=>simp only[cP]at aq
 case' inr=>
  have be:¬((m:Int)+1=0):=by omega
  have bf:¬((m:Int)+1=1):=by omega
  have bg:(0:Int)<(m:Int)+1:=by omega
 all_goals
  have ay:Hid (∃j q,(j=(wr.alloc (.cells #[ab y0,ab y1,ae ys,.slice ya yl yc] 30)).drew/\q=wr.heap.size)/\ai wr j/\j.heap[q]?=some (.cells #[ab y0,ab y1,ae ys,.slice ya yl yc] 30)/\q<j.heap.size/\wr.heap.size<=q):=⟨_,_,⟨rfl,rfl⟩,(show Below _ _ _ by go_grown),az wr _,by simp[World.drew],aj _⟩;go_wp2_with fail;obtain⟨j,q,⟨aC,aB⟩,n⟩:=ay.out;rw[<-aC,<-aB];replace n:=ao n;clear aC aB ay aD aE aF aU U V X Y;have ah:=ao (al.out _ n.out.1);have y:Hid (∀W:World,(∀b,b<j.heap.size->b≠i->b≠g->W.heap[b]?=j.heap[b]?)->(W.cell? ⟨wp.b,wp.o,none⟩=some (.map (some i))/\W.cell? ⟨h,0,none⟩=some (ab a)/\W.cell? ⟨h,1,none⟩=some (ab b))/\(W.cell? ⟨q,0,none⟩=some (ab y0)/\W.cell? ⟨q,1,none⟩=some (ab y1)/\W.cell? ⟨q,2,none⟩=some (ae ys)/\W.cell? ⟨q,3,none⟩=some (.slice ya yl yc))/\(W.heap[f]?=some (.cells #[ab 0,ab 0,ae ⟨#[]⟩,.slice none 0 0] 30))):=by
   intro W s;obtain⟨a0,a1,bh,bi,bj,bl⟩:=x.out;have bc:=n.out.1.size;have bb:=n.out.2.2.2;have C:=(s h (by omega) (by omega) (by omega)).trans ((n.out.1.block h a1).trans aw.out);have aN:=(s f (by omega) (by omega) (by omega)).trans ((n.out.1.block f a0).trans aJ.out);have I:=(s q n.out.2.2.1 (by omega) (by omega)).trans n.out.2.1;have aO:=s wp.b (by omega) aW aV;refine⟨⟨?_,af C 0,af C 1⟩,⟨af I 0,af I 1,af I 2,af I 3⟩,aN⟩;have J:=(Q.out j n.out.1).1;simp only[World.cell?,aO]at J ⊢;exact J
  have aH:Hid (ai j j.drew):=(am _ _).drew;have N:=ao (ah.out.trans (aH.out.mono ah.out.size));obtain⟨⟨aD,aE,aF⟩,_,_⟩:=y.out j (λ_ _ _ _=>rfl);have av:=ao (y.out j.drew (λ_ _ _ _=>rfl)).1
 ·go_region_held3 (λW=>W.cell? ⟨wp.b,wp.o,none⟩=some (.map (some i))/\W.cell? ⟨h,0,none⟩=some (ab a)/\W.cell? ⟨h,1,none⟩=some (ab b)) (first|(go_keep;done)|exact av.out|exact aI.out.1|exact z.out.1)
    ((first|(go_at_call 77;refine(O.out _ N.out).mono ?_;rintro e a6 ⟨rfl,A⟩;obtain⟨d,bd,E,D⟩:=aK.out _ _ A.out.2 N.out A.out.1;have aI:=ao (y.out a6 (λb t K L=>A.out.1.block b t (λe=>L (au e))));have z:=ao (y.out d (λb t K L=>(E.block b (aL t A.out.1.size) K).trans (A.out.1.block b t (λe=>L (au e)))));have P:=ao D;clear E D)))
  obtain⟨_,⟨a2,a3,a4,a5⟩,k⟩:=z.out;have Z:d.cell? ⟨f,0,none⟩=some (ab 0):=af k 0;have aa:d.cell? ⟨f,1,none⟩=some (ab 0):=af k 1;have ad:d.cell? ⟨f,2,none⟩=some (ae ⟨#[]⟩):=af k 2;have ag:d.cell? ⟨f,3,none⟩=some (.slice none 0 0):=af k 3;have l:∀F,d.frozen? ⟨f,F,none⟩=false:=λF=>by simp[World.frozen?,k]
  have aP:=l 0;have aQ:=l 1;have aR:=l 2;have aS:=l 3;have r:=ao x.out.2.2.2.1;clear l k;go_wp2_with fail;refine ar (v:=.tuple #[.agg #[ab y0,ab y1,ae ys,.slice ya yl yc],ab 0]) (by simp[results,Tryz.results48,go_sem,Z,aa,ad,ag]) rfl ⟨rfl,?_⟩;exact P.out _ (((((am w.heap.size d).setCell r.out _).setCell r.out _).setCell r.out _).setCell r.out _)
 ·obtain⟨d,a7,E,aX,D⟩:∃d,(∀ty,(Builtin.delete_ #[63,164] ty #[.map (some i),.agg #[ab a,ab b]]).run Tryz.prog j.drew=.ok (.tuple #[]) d)/\bk (λb=>b=i) j.drew d/\d.heap.size=j.drew.heap.size/\∀w2,Below w.heap.size d w2->G w2:=O.out _ N.out;have z:=ao (y.out d (λb t K L=>E.block b t K));have P:=ao D;clear E aX D;go_region_held3 (λW=>W.cell? ⟨wp.b,wp.o,none⟩=some (.map (some i))/\W.cell? ⟨h,0,none⟩=some (ab a)/\W.cell? ⟨h,1,none⟩=some (ab b)) (first|(go_keep;done)|exact av.out|exact z.out.1) (fail);obtain⟨_,⟨a2,a3,a4,a5⟩,k⟩:=z.out;have Z:d.cell? ⟨f,0,none⟩=some (ab 0):=af k 0;have aa:d.cell? ⟨f,1,none⟩=some (ab 0):=af k 1;have ad:d.cell? ⟨f,2,none⟩=some (ae ⟨#[]⟩):=af k 2;have ag:d.cell? ⟨f,3,none⟩=some (.slice none 0 0):=af k 3;have l:∀F,d.frozen? ⟨f,F,none⟩=false:=λF=>by simp[World.frozen?,k]
  have aP:=l 0;have aQ:=l 1;have aR:=l 2;have aS:=l 3;have r:=ao x.out.2.2.2.1;clear l k;go_wp2_with fail;refine ar (v:=.tuple #[.agg #[ab y0,ab y1,ae ys,.slice ya yl yc],ab 0]) (by simp[results,Tryz.results48,go_sem,Z,aa,ad,ag]) rfl ⟨rfl,?_⟩;exact P.out _ (((((am w.heap.size d).setCell r.out _).setCell r.out _).setCell r.out _).setCell r.out _)
variable {base n N:Nat} {wp:BL} {mo:Option Nat} {f:Int×Int->List (Tm (N+1))} {sl:Int×Int->Value} {w:World}
def lh(base:Nat)(wp:BL)(mo:Option Nat)(n N:Nat)(f:Int×Int->List (Tm (N+1)))(sl:Int×Int->Value)(k:Int×Int)(l:List (Tm (N+1)))(w w':World):Prop:=
 ∃a,gO base wp mo (n+1) (N+1) (gY f k l) a w'/\bk (qX wp mo sl) w w'/\∀b,qX wp mo a b->qX wp mo sl b
theorem lh.later{k:Int×Int}{l:List (Tm (N+1))}{w' w2:World}(h:gO base wp mo n (N+1) f sl w)(g:lh base wp mo n N f sl k l w w')(a:Below w.heap.size w' w2):lh base wp mo n N f sl k l w w2:=by
 obtain⟨o,i,j,d⟩:=g;have e:bk (λb=>w.heap.size<=b) w' w2:=⟨a.os,a.tape,a.output,a.size,λb _ c=>a.block b (by omega)⟩;refine⟨o,i.kee e λb c m=>?_,bk.trans j e λb c m=>?_,d⟩
 ·have:=(h.lt b (d b c)).2;omega
 ·omega
theorem Gk{base g c L:Nat}{y:Tm (N+1)}{l:List (Tm (N+1))}(b:w.ownsRow base 30 4 (.slice (some ⟨g,0,none⟩) L c) L (de (N+1) (y::l))):w.cell? ⟨g,0,none⟩=some (ab y.1.1)/\w.cell? ⟨g,1,none⟩=some (ab y.1.2.1)/\w.cell? ⟨g,2,none⟩=some (ae y.1.2.2)/\w.cell? ⟨g,3,none⟩=some (.slice y.2.1.1 y.2.2.length y.2.1.2):=by
 have a:=CT (l:=(y::l).map (fX (N+1))) b 0 (fX (N+1) y) (by simp);simp only[Nat.zero_mul,cP]at a;exact a
theorem JJ(d:gO base wp mo n (N+1) f sl w){a b:Int}(m:I2 (a,b))(aq:n<999999)(V:(f (a,b)).length<=1000):ak 48 #[.pointer (some ⟨wp.b,wp.o,none⟩),ab a,ab b] w λe w'=> (f (a,b)=[]->e=.returned (.tuple #[.agg #[ab 0,ab 0,ae ⟨#[]⟩,.slice none 0 0],ab 4])/\ai w w')/\ ∀y l,f (a,b)=y::l->e=.returned (.tuple #[df (N+1) y,ab 0])/\lh base wp mo n N f sl (a,b) l w w':=by
 have r:=d.lt wp.b (ag rfl);have z:∀i,ai w i->(Instr.lookup 63 (.map mo) (.agg #[ab a,ab b]) false).run Tryz.prog i=.ok (sl (a,b)) i:=λi g=>(d.later g).look m;cases k:f (a,b)with
 | nil=>
  have t:sl (a,b)=.slice none 0 0:=by
   rcases d.2.2 with⟨_,_,rfl⟩|⟨h,rfl,s⟩
   ·rfl
   ·obtain⟨Q,R,G,H⟩:=s.map;have ad:has Q (kl (a,b))=false:=by
     cases hh:has Q (kl (a,b))
     ·rfl
     ·obtain⟨u,x,Z,T⟩:=(H _).1 hh;rw[<-pD m x Z]at T;exact absurd k T
    have:=G (a,b) m;rw[atKey_of_not_has ad]at this;injection this with this;exact this.symm
  rw[t]at z;refine(Gx wp mo a b w r.2 d.cell.1 z).mono ?_;rintro e w' ⟨rfl,c⟩;exact⟨λ_=>⟨rfl,c⟩,λy l e=>by cases e⟩
 | cons y l=>
  rcases d.2.2 with⟨_,rfl,_⟩|⟨h,rfl,s⟩
  ·cases k
  ·obtain⟨sa,sc,t,A⟩:=(s.row (a,b) m).at;rw[k]at t A V;have W:=s.lt h (ag rfl);obtain⟨j,rfl⟩:∃j,sa=some ⟨j,0,none⟩:=by
    rcases A.2 with⟨e,_⟩|⟨j,cap,ap,e,_⟩
    ·simp at e
    ·simp at e;exact⟨j,e.1⟩
   have U:=A.lt j rfl;have O:wp.b≠j:=λe=>yX d m (by rw[t,e];rfl);have Y:=Gk A;rw[t]at z;cases hl0:l with
   | nil=>
    subst hl0;refine(wZ wp h j sc 0 y.1.1 y.1.2.1 y.1.2.2 y.2.1.1 y.2.2.length y.2.1.2 a b w (λw'=>lh base wp (some h) n N f sl (a,b) [] w w') (λ_ _=>True) r.2 U.2 W.2 (vo d) O d.cell.1 z Y (ag ⟨rfl,λi g=>?_⟩)).mono ?_
    ·have I:GM base h n (N+1) f sl i:=s.kee (aD g λ_=>False) λ_ _ k=>k;obtain⟨v,P,J,p,X⟩:=I.drop m 3;have af:∀ty,(Builtin.delete_ #[63,164] ty #[.map (some h),.agg #[ab a,ab b]]).run Tryz.prog i=.ok (.tuple #[]) v:=λty=>P;refine⟨v,af,p,X,λan K=>?_⟩;have q:lh base wp (some h) n N f sl (a,b) [] w v:=by
      refine⟨_,⟨d.1,(d.2.1.kept (g.block wp.b r.2)).kept (p.block wp.b (aL r.2 g.size) (vo d)),ah ⟨h,rfl,J.mono (fe n)⟩⟩,bk.trans (aD g _) p λC _ e=>ah (ag (by rw[e])),λC c=>?_⟩;rcases c with c|c|⟨u,x,c⟩
      ·exact ag c
      ·exact ah (ag c)
      ·by_cases e:u=(a,b)
       ·rw[e,cF]at c;simp[lM,Value.ownBlock]at c
       ·rw[bM _ _ e]at c;exact ah (ah ⟨u,x,c⟩)
     exact lh.later d q K
    ·rintro e w' ⟨rfl,q⟩;refine⟨λe=>(by cases e),λao am e=>?_⟩;injection e with E F;subst E F;exact⟨rfl,q⟩
   | cons y2 av=>
    rw[<-hl0];have M:l≠[]:=by rw[hl0];simp
    have aa:1<=l.length:=List.length_pos_iff.2 M;refine(wZ wp h j sc l.length y.1.1 y.1.2.1 y.1.2.2 y.2.1.1 y.2.2.length y.2.1.2 a b w (λw'=>lh base wp (some h) n N f sl (a,b) l w w') (λi w'=>ns base (N+1) (.slice (some ⟨j,0,none⟩) l.length sc) l w'/\w'.heap.size=i.heap.size) r.2 U.2 W.2 (vo d) O d.cell.1 z Y (ah ⟨aa,by simp at V;omega,λi g=>?_,λi D S g L=>?_⟩)).mono ?_
    ·refine(Cc base j sc l.length y l i rfl (aY A (aD g λ_=>False) λ_ _ k=>k) M).mono ?_;rintro e w' ⟨rfl,R,G,H⟩;exact⟨rfl,G,R,H⟩
    ·have I:GM base h n (N+1) f sl i:=s.kee (aD g λ_=>False) λ_ _ k=>k;have B:(sl (a,b)).ownBlock=some j:=by rw[t];rfl
     obtain⟨v,P,J,p,X⟩:=I.store m (w1:=D) ((dR L).mono λb _ e=>B.trans e) M S.1 (λb c=>ag (B.trans c)) (by omega);refine⟨v,P,p,λan K=>?_⟩;have al:bk (qX wp (some h) sl) w D:=bk.trans (aD g _) (dR L) λC _ e=>ah (ah ⟨(a,b),m,B.trans e⟩);have aj:D.heap[wp.b]?=w.heap[wp.b]? :=(L.block wp.b (aL r.2 g.size) (λe=>O (au e))).trans (g.block wp.b r.2);have ar:=g.size;have q:lh base wp (some h) n N f sl (a,b) l w v:=by
      refine⟨_,⟨d.1,(d.2.1.kept aj).kept (p.block wp.b (by rw[S.2];omega) (vo d)),ah ⟨h,rfl,J⟩⟩,bk.trans al p λC _ e=>ah (ag (by rw[e])),λC c=>?_⟩;rcases c with c|c|⟨u,x,c⟩
      ·exact ag c
      ·exact ah (ag c)
      ·by_cases e:u=(a,b)
       ·rw[e,cF]at c;exact ah (ah ⟨(a,b),m,B.trans c⟩)
       ·rw[bM _ _ e]at c;exact ah (ah ⟨u,x,c⟩)
     exact lh.later d q K
    ·rintro e w' ⟨rfl,q⟩;refine⟨λe=>(by cases e),λao am e=>?_⟩;injection e with E F;subst E F;exact⟨rfl,q⟩
def iy(x y:Int):Int×Int:=(min x y,max x y)
def pI:List Int:=(List.range 99).map λi:Nat=>(i:Int)+1
theorem AB{y:Int}:y∈pI ↔ 1<=y/\y<=99:=by
 simp only[pI,bU,List.mem_range];constructor
 ·rintro ⟨c,b,rfl⟩;omega
 ·intro a;exact⟨(y-1).toNat,by omega,by omega⟩
theorem nI:pI.length=99:=by simp[pI]
theorem CZ:pI.Nodup:=by
 unfold pI;refine List.Pairwise.map _ ?_ List.nodup_range;intro c b a d;exact a (by omega)
theorem Jh(i:Nat)(a:i<99):pI[i]?=some ((i:Int)+1):=by simp[pI,a]
def pZ(g:Int×Int->Bool)(x:Int):List Int:=pI.filter λy=>g (iy x y)
def zh(g:Int×Int->Bool):Prop:=∀k,g k=true->1<=k.1/\k.1<k.2/\k.2<=99
theorem iO{g:Int×Int->Bool}{x y:Int}:y∈pZ g x ↔ (1<=y/\y<=99)/\g (iy x y)=true:=by
 rw[pZ,List.mem_filter,AB]
theorem om(g:Int×Int->Bool)(x:Int):(pZ g x).Nodup:=CZ.sublist List.filter_sublist
theorem uI(g:Int×Int->Bool)(x:Int):(pZ g x).length<=99:=by
 have:=List.length_filter_le (λa=>g (iy x a)) pI;rw[nI]at this;exact this
theorem gE(x y:Int):iy x y=(x,y)/\x<=y\/iy x y=(y,x)/\y<=x:=by
 rcases Int.le_total x y with a|a
 ·exact ag ⟨by simp[iy,Int.min_eq_left a,Int.max_eq_right a],a⟩
 ·exact ah ⟨by simp[iy,Int.min_eq_right a,Int.max_eq_left a],a⟩
theorem FR{g:Int×Int->Bool}(c:zh g){x y:Int}(b:g (iy x y)=true):(1<=x/\x<=99)/\(1<=y/\y<=99)/\x≠y:=by
 have:=c _ b;rcases gE x y with⟨a,_⟩|⟨a,_⟩<;>(rw[a]at this;simp at this;omega)
theorem AI{g:Int×Int->Bool}(b:zh g)(x:Int):x∉pZ g x:=λa=>(FR b (iO.1 a).2).2.2 rfl
def wo(g:Int×Int->Bool)(l:List Int):Int×Int->Bool:=λk=>g k && !l.contains k.1 && !l.contains k.2
theorem rT{g:Int×Int->Bool}{l:List Int}{k:Int×Int}:wo g l k=true ↔ g k=true/\k.1∉l/\k.2∉l:=by
 simp[wo,and_assoc]
theorem Md{g:Int×Int->Bool}{l:List Int}{x y:Int}:wo g l (iy x y)=true ↔ g (iy x y)=true/\x∉l/\y∉l:=by
 rw[rT];rcases gE x y with⟨d,_⟩|⟨d,_⟩
 ·rw[d]
 ·rw[d];constructor
  ·rintro ⟨a,b,c⟩;exact⟨a,c,b⟩
  ·rintro ⟨a,b,c⟩;exact⟨a,c,b⟩
theorem zh.wo{g:Int×Int->Bool}(a:zh g)(l:List Int):zh (wo g l):=λk b=>a k (rT.1 b).1
theorem N3(g:Int×Int->Bool)(l r:List Int):wo (wo g l) r=wo g (l++r):=by
 funext k;rw[Bool.eq_iff_iff,rT,rT,rT];simp only[da,not_or];constructor
 ·rintro ⟨⟨a,b,c⟩,d,e⟩;exact⟨a,⟨b,d⟩,c,e⟩
 ·rintro ⟨a,⟨b,d⟩,c,e⟩;exact⟨⟨a,b,c⟩,d,e⟩
def sP(g:Int×Int->Bool)(x:Int)(l:List Int):Int×Int->Bool:=l.foldl (λg y=>gY g (iy x y) false) g
theorem zM{g:Int×Int->Bool}{x:Int}{l:List Int}{k:Int×Int}:sP g x l k=true ↔ g k=true/\∀y∈l,k≠iy x y:=by
 induction l generalizing g with
 | nil=>simp[sP]
 | cons y l ih=>
  have b:sP g x (y::l)=sP (gY g (iy x y) false) x l:=rfl;rw[b,ih];unfold gY;by_cases a:k=iy x y
  ·simp[a]
  ·simp[a]
theorem E7(g:Int×Int->Bool)(x:Int)(l:List Int)(y:Int):sP g x (l++ [y])=gY (sP g x l) (iy x y) false:=by simp[sP]
theorem KL{g:Int×Int->Bool}(i:zh g)(x:Int):sP g x (pZ g x)=wo g [x]:=by
 funext k;rw[Bool.eq_iff_iff,zM,rT];refine and_congr_right λd=>?_;have l:=i k d;simp only[dD];constructor
 ·intro e;refine⟨λb=>?_,λb=>?_⟩
  ·have c:k=iy x k.2:=by
     rcases gE x k.2 with⟨a,_⟩|⟨_,a⟩
     ·rw[a,<-b]
     ·omega
   exact e k.2 (iO.2 ⟨by omega,c▸d⟩) c
  ·have c:k=iy x k.1:=by
     rcases gE x k.1 with⟨_,a⟩|⟨a,_⟩
     ·omega
     ·rw[a,<-b]
   exact e k.1 (iO.2 ⟨by omega,c▸d⟩) c
 ·rintro ⟨f,h⟩ j _ b;rcases gE x j with⟨a,_⟩|⟨a,_⟩
  ·exact f (by rw[b,a])
  ·exact h (by rw[b,a])
/-! ### who is told -/
def yg(t l:List Int):List Int:=l.filter λy=> !t.contains y
def cY(g:Int×Int->Bool)(x:Int):Nat->List Int
 | 0=>pZ g x
 | i+1=>match (cY g x i)[i]? with
  | some y=>cY g x i++yg (cY g x i) (pZ (wo g (x::(cY g x i).take i)) y)
  | none=>cY g x i
def sF(g:Int×Int->Bool)(x:Int):List Int:=cY g x 99
theorem qB{t l:List Int}{y:Int}:y∈yg t l ↔ y∈l/\y∉t:=by simp[yg]
structure Told (g:Int×Int->Bool) (x:Int) (l:List Int):Prop where
 nodup:l.Nodup
 self:x∉l
 rng:∀y∈l,1<=y/\y<=99
 from':∀i y,l[i]?=some y->∃k∈x::l.take i,y∈pZ g k
theorem yk{t l:List Int}(c:t.Nodup)(d:l.Nodup)(e:∀y∈l,y∉t):(t++l).Nodup:=by
 rw[eL];exact⟨c,d,λh f b g a=>e b g (a▸f)⟩
theorem sx{l:List Int}{i:Nat}{y:Int}(c:l.Nodup)(g:l[i]?=some y):y∉l.take i:=by
 intro f;obtain⟨h,d,a⟩:=List.getElem_of_mem f;rw[dw]at d;rw[List.getElem_take]at a;obtain⟨e,b⟩:=aM.1 g;exact(List.pairwise_iff_getElem.1 c) h i (by omega) e (by omega) (a.trans b.symm)
theorem iC{g:Int×Int->Bool}(e:zh g)(x:Int):∀i,Told g x (cY g x i)
 | 0=>⟨om g x,AI e x,λy c=>(iO.1 c).1,λi y c=>⟨x,by simp,aG c⟩⟩
 | i+1=>by
  have ih:=iC e x i;unfold cY;split
  ·rename_i y c;refine⟨yk ih.nodup ((om _ _).sublist List.filter_sublist) λd b=>(qB.1 b).2,?_,?_,?_⟩
   ·intro a;rcases da.1 a with a|a
    ·exact ih.self a
    ·have:=(Md.1 (iO.1 (qB.1 a).1).2).2.2;simp at this
   ·intro d b;rcases da.1 b with a|a
    ·exact ih.rng d a
    ·exact(iO.1 (qB.1 a).1).1
   ·intro j d b;rw[List.getElem?_append]at b;split at b
    ·rename_i h;obtain⟨k,l,m⟩:=ih.from' j d b;refine⟨k,?_,m⟩;rw[jj (by omega)];exact l
    ·rename_i h;have f:=qB.1 (aG b);refine⟨y,?_,iO.2 ⟨(iO.1 f.1).1,(Md.1 (iO.1 f.1).2).1⟩⟩;refine bH _ ?_;rw[List.take_append];refine mh _ ?_;rw[bw (by omega)];exact aG c
  ·exact ih
theorem I5{l:List Int}(a:l.Nodup):∀{r:List Int},(∀y∈l,y∈r)->l.length<=r.length:=by
 induction l with
 | nil=>simp
 | cons y l ih=>
  intro r b;rw[j8]at a;have c:=b y (by simp);have:=ih a.2 (r:=r.erase y) λe d=>(List.mem_erase_of_ne (λf:e=y=>a.1 (f▸d))).2 (b e (by simp[d]));rw[List.length_erase_of_mem c]at this;have:=List.length_pos_of_mem c;simp;omega
theorem Told.le{g:Int×Int->Bool}{x:Int}{l:List Int}(a:Told g x l):l.length<=99:=by
 have:=I5 a.nodup (r:=pI) λc b=>AB.2 (a.rng c b);rwa [nI]at this
theorem pT{g:Int×Int->Bool}{x:Int}{i:Nat}(a:(cY g x i).length<=i):∀j,cY g x (i+j)=cY g x i
 | 0=>rfl
 | j+1=>by
  have ih:=pT a j;have:cY g x (i+j+1)=cY g x (i+j):=by
   rw[cY];rw[eg (by rw[ih];omega)]
  rw[<-Nat.add_assoc,this,ih]
theorem GC{g:Int×Int->Bool}(e:zh g){x:Int}{i:Nat}(d:(cY g x i).length<=i):cY g x i=sF g x:=by
 unfold sF;rcases Nat.le_total i 99 with a|a
 ·obtain⟨b,c⟩:=Nat.le.dest a;rw[<-c,pT d b]
 ·obtain⟨b,rfl⟩:=Nat.le.dest a;exact pT ((iC e x 99).le) b
theorem Du{g:Int×Int->Bool}(a:zh g)(x:Int):Told g x (sF g x):=iC a x 99
theorem Lq{x y a v:Int}:iy a v=iy x y ↔ (a=x/\v=y)\/(a=y/\v=x):=by
 rcases gE x y with⟨b,d⟩|⟨b,d⟩<;>rcases gE a v with⟨c,e⟩|⟨c,e⟩<;>(rw[b,c];simp only[ei];omega)
theorem Gd(i:Nat)(a:i<99):pI.take (i+1)=pI.take i++ [(i:Int)+1]:=by
 rw[dx,Jh i a];rfl
def qG(g:Int×Int->Bool)(x:Int)(i:Nat):List Int:=(pI.take i).filter λy=>g (iy x y)
theorem FS(g:Int×Int->Bool)(x:Int)(i:Nat)(a:i<99):qG g x (i+1)=qG g x i++if g (iy x ((i:Int)+1))then [(i:Int)+1]else []:=by
 rw[qG,Gd i a,List.filter_append,List.filter_cons,List.filter_nil];rfl
theorem I7(g:Int×Int->Bool)(x:Int):qG g x 99=pZ g x:=by
 rw[qG,bw (by rw[nI];exact aj _)];rfl
theorem AJ(g:Int×Int->Bool)(x:Int)(i:Nat):(qG g x i).length<=i:=by
 have:=List.length_filter_le (λa=>g (iy x a)) (pI.take i);rw[dw]at this;unfold qG;omega
theorem FN(t l:List Int)(y:Int)(b:y∉l):yg t (l++ [y])=yg t l++if (t++yg t l).contains y then []else [y]:=by
 unfold yg;rw[List.filter_append,List.filter_cons,List.filter_nil];have a:(t++l.filter λy=> !t.contains y).contains y=t.contains y:=by
  rw[Bool.eq_iff_iff];simp[b]
 rw[a];cases t.contains y<;>rfl
end Go.Proofs.YtckamaoibonjcaaGreat
