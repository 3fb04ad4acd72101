import PyProof.Rows.All
import Wide.All
import OpenK.AllK
import Wide.FinOn
import PyProof.EqAt
import PyProof.EqKinds
import PyProof.TupleCall
import KE.BitLaws
import KE.KNest
import KE.KLam
import KE.KDictLaws
import PyProof.ListMulRoad
import KE.KDictList
import PyProof.DictTruth
import PyProof.ListRange
import Open.SpecLaws
import KE.OsHead
import KE.OsGo
import KE.KTupSum
import WqaraoSpec
import PySem.Challenge.RW_rankroom_s01_answers
import PyWqarao
set_option Elab.async false
set_option linter.all false
set_option maxRecDepth 100000
set_option maxHeartbeats 2000000
set_option hygiene false
local macro_rules|`(#[$a])=>`(⟨$a⟩)|`(#[$a,$b,*])=>`(⟨$a,$b,*⟩)
local macro_rules
|`(`dl)=>`(#[rfl,rfl,rfl,by decide+kernel,rfl,by decide+kernel,by decide+kernel])
|`(`ld)=>`(#[rfl,rfl,rfl,by decide+kernel,rfl,by decide+kernel,by decide+kernel,by decide+kernel,by decide+kernel])
|`(`mt)=>`((by omega))
|`(`BT)=>`((by decide+kernel))
|`(`Ch)=>`((fun _ _=>rfl))
|`(`Cl)=>`((Or.inl rfl))
|`(`Fr)=>`((fun _ _ _ _ _ _ us hl=>match us,hl with| [_,_],_=>rfl))
|`(`Id)=>`((List (List Nat)))
|`(`IO)=>`((by rfl))
|`(`KK)=>`((by decide))
|`(`LE)=>`((fun cdv A outer s H vs Q E hr h=>?_))
|`(`LT)=>`((fun e=>az (fun _=>k8 (by have:=af e;omega)) fun z=>nomatch z))
|`(`ST)=>`((fun vs H Q E h=>?_))
|`(`Tm)=>`((model X.prog X.w))
|`(`Ty)=>`((fun vs H Q E ⟨_,_,_,e,_⟩=>by rw[e];rfl))
|`(`XL)=>`((by intro z;cases z))
|`(`XV)=>`((bq (pv 0) rfl))
|`(`i')=>`((s.heap.objs.size+1))
|`(`j')=>`((fun vs H Q E ⟨_,_,_,_,_,_,c,_⟩=>c.1))
|`(`A')=>`((fun e=>?_))
|`(`B')=>`((fun A outer s H vs Q E hr h=>?_))
|`(`C')=>`((model prog w))
|`(`D')=>`((fun _ _ _ _ _ _ us hl=>match us,hl with| [_],_=>rfl))
|`(`E')=>`((fun i j:Int=>decide (i=j)))
|`(`F')=>`(#[fun h=>by omega,fun h=>by omega])
|`(`K')=>`((fun i j:Int=> !decide (i=j)))
|`(`M')=>`((aM.refl _))
|`(`P')=>`(#[_,rfl,ag,_,0,nV n0,rfl,rfl,SqL.of hg,bx (j:=0) rfl,_,rfl,ag,_,1,nV n1,rfl,rfl,SqL.of hg,bx (j:=1) rfl,_,#[n0,n1,rfl,rfl],ht,qn,qs])
|`(`S')=>`((by simp))
|`(`U')=>`((bq (pv 1) rfl))
|`(`V')=>`((iH (ha pos pins s σ H _ I h) fun us s1 ⟨vs,H1,I1,r1,q1⟩=>?_))
|`(`X')=>`((fun _ _ _ _ _ _ us hl=>match us,hl with| [_,_,_],_=>rfl))
|`(`Y')=>`(((ly.map (j5 M)).drop 1))
|`(`Z')=>`((fvs.map some++replicate (N.length - (ps.length+F.length)) none))
|`(`aa')=>`((X.blk s H scope (compEnvC scope cl C X.env) fp))
|`(`ab')=>`((fun _ _ _ _ _ _ us hl=>match us,hl with| [_,_,_,_],_=>rfl))
|`(`ac')=>`((fun e=>k8 (by have:=af e;omega)))
|`(`ad')=>`((fun b (c:List Nat)=>H b=some (.tup (c.map nV))))
|`(`ae')=>`((Sum.inl (t:Int)))
|`(`af')=>`((by rw[fz];rfl))
local macro_rules
|`(`ag')=>`((cellsFrom (s3.heap.objs.size+1) scope.names (gU X.env.cells scope.names [])))
|`(`ah')=>`((bb (da (pv 0) aC)))
|`(`ai')=>`((.ref s.heap.objs.size))
|`(`aj')=>`((.tup [.int (i:Nat),x]))
|`(`ak')=>`(#[hT,fun fm fd H1 yG kb lF lI lW=>#[_,rfl,_,rfl,_,rfl,fun base g=>?_]])
|`(`al')=>`((bO (bO (bO H P (.tbl (ps++ (List.toArray [rawInt pos.line,rawInt pos.col,.ref c'])))) c' (.frz oc uT)) h'.objs.size (.frz (ur fd) uT)))
|`(`am')=>`(((la.map (j5 M)).drop 1))
|`(`an')=>`((fun z=>hc (by simp[z])))
|`(`ao')=>`(#[_,rfl,_,rfl,by show 2<=sizeLine;decide,fun b hb=>tk e _ _ (aM.new hb) #[b,_,rfl,aq,rfl]])
|`(`ap')=>`((Pos×Str))
|`(`aq')=>`((.lst (as.map V.ref)))
|`(`ar')=>`((G.drop i))
|`(`at')=>`((List Nat))
|`(`au')=>`((bO H5 D (.lst (cR++[y]))))
|`(`av')=>`(#[_,rfl,_,rfl,rm,CR,lC,_,_,rfl,qH,RC.cl,RC.f1,rfl,dk,some (.ref ra),rfl,l9.n px va,_,rfl,az (fun z=>(by cases z)) fun _=>?_])
|`(`aw')=>`((fun _ _ _ _ _=>jo))
|`(`ax')=>`((Nat×κ))
|`(`ay')=>`((by intro _ z;cases z))
|`(`az')=>`((x==("__debug__":Str)))
|`(`aA')=>`([some (.ref st),some (nV L),some (.ref nm),some (.ref nd),some (.ref q),v,v2,none])
|`(`aB')=>`((s.heap.push {cls:=.type "frame",data:=.dict #[]}))
|`(`aC')=>`((aa (pv 2) aB))
|`(`aD')=>`(#[rfl,I.turned (fun b o hb e=>eb b o hb e) f0 f1 f3 f4 f5])
|`(`aE')=>`((fun i j:Int=>decide (j<=i)))
|`(`aF')=>`((uM CX P w K mg base N qual scope f cdv cl A outer s H E))
|`(`aG')=>`((.Call (.Name x p) (e::es) [] pos))
|`(`aH')=>`((G.drop (i+1)))
|`(`aI')=>`((cC (jv (bb (fq (pv 0) aC)) (j7 (bb (fq (pv 1) aC)))).pt (aG (aY iU)) br))
|`(`aJ')=>`((fun i j:Int=>decide (j<i)))
|`(`aK')=>`((List.toArray [.int lo t,.int hi u,.int 1 v]))
|`(`aL')=>`((.lst (bs.map V.ref)))
|`(`aM')=>`((aa (pv 0) aB))
|`(`aN')=>`((aa (pv 1) aB))
|`(`aO')=>`((.ins CR lC [("kinds",.ref dk)]))
|`(`aP')=>`((((List.range M).find? (mZ ly l r)).getD 0))
|`(`aQ')=>`((.ListComp elt [#[tg,iter,MD,0]] scope pos))
|`(`aR')=>`((fun _ _ _ z=>z))
|`(`aS')=>`((fun _=>rfl))
|`(`aT')=>`((sIx items.size items.size hi - sIx items.size 0 lo))
|`(`aU')=>`((.lst (ou ((t::gs).map nV) (some 1) none)))
local macro_rules
|`(`aV')=>`((fun vs H Q E ⟨_,_,e,_⟩=>by rw[e];rfl))
|`(`aW')=>`(["length","letters","size","start","moves","ends"])
|`(`aX')=>`(#[_,rfl,ag,_,0,nV n0,rfl,rfl,SqL.of hg,bx (j:=0) rfl,_,rfl,ag,_,1,nV n1,rfl,rfl,SqL.of hg,bx (j:=1) rfl,_,rfl,ag,_,2,nV n2,rfl,rfl,SqL.of hg,bx (j:=2) rfl,_,#[n0,n1,n2,rfl,rfl],ht,qn,qs])
|`(`aY')=>`((aa (pv 3) aB))
|`(`aZ')=>`((ha pins s σ H _ I h))
|`(`a0')=>`((starEach es X.env))
|`(`a1')=>`(["step","letters","names","nodes"])
|`(`a2')=>`((fun vs H Q E ⟨_,_,_,_,_,c,_⟩=>c.1))
|`(`a3')=>`(#[_,rfl,.inl #[rfl,_,SqL.of US],_,rfl,nd,rfl,.inr #[_,.inl Q6],_,rfl,_,rfl,nd,rfl,.inr #[_,Q6,.inr #[_,i5 (cH names c),l,Q6,rfl,QQ,by rw[kZ];exact yE,fun v hv=>?_,fun hv=>?_]]])
|`(`a4')=>`((fun _ _ _ _ _ _ us hl=>match us,hl with| [_,_,_,_,_],_=>rfl))
|`(`a5')=>`((fun cdv A outer sh H vs Q E hr h=>?_))
|`(`a6')=>`(#[_,rfl,_,_,rfl,rfl,_,rfl,az (fun e1=>#[_,rfl,_,_,rfl,rfl,(show(0:Int)<2 by decide),i%2,0,rfl,rfl,_,rfl,az (fun e2=>?_) fun e2=>?_]) fun e1=>az (fun z=>nomatch z) fun _=>?_])
|`(`a7')=>`(((lya.map (j5 M)).drop 1))
|`(`a8')=>`((.inl rfl))
|`(`a9')=>`((fun i t _ sE=>#[hX ((cM.filter _).filter _) fun x hx=>vK (aO.mp hx).1,fun x t' hm=>?_]))
|`(`ba')=>`((replicate L 0))
|`(`bb')=>`((fun(b:ak) (kv:List nB×V)=>H b=some (.tup (kv.1.map kV))))
|`(`bc')=>`(#[vd.1,vd.2.1,vd.2.2.1,fun r hr=>?_])
|`(`bd')=>`((.ref r))
|`(`be')=>`(["kind","row"])
|`(`bf')=>`((Dq (P:=P) (w:=w) (base:=base) S.b.fn S.kc T.toTxt4 S.l))
|`(`bg')=>`((EP X pins σ Q))
|`(`bh')=>`((.lst xs))
|`(`bi')=>`((G.length - (i+1)))
|`(`bj')=>`((bO H4 D (.lst (cR++[y]))))
|`(`bk')=>`((replicate M 0))
|`(`bl')=>`((bO (bO (bO H P (.tbl (ps++t))) c' (.frz oc uT)) h'.objs.size (.frz (ur fd) uT)))
|`(`bm')=>`((fun i t _ e=>#[hX nodup_range' fun x hx=>by have:=yI hx;omega,fun x t' hm=>?_]))
|`(`bn')=>`(["states","k","accepting","n","following"])
|`(`bo')=>`((.lst []))
|`(`bp')=>`((fun x hx H4 NX s4 sk tk=>?_))
|`(`bq')=>`(#[_,rfl,ag,_,0,nV n0,rfl,rfl,SqL.of hg,bx (j:=0) rfl,_,#[n0,rfl,rfl],ht,qn,qs])
|`(`br')=>`((List.toArray [.none,.bool false,.ref s.heap.objs.size,rawInt 0,.none,.none]))
|`(`bs')=>`(((1:Int)*2^(aW.length:Int).toNat))
|`(`bt')=>`((.lst [.int 0,.int 1]))
|`(`bu')=>`((.ref a))
|`(`bv')=>`((fun _ z=>nomatch z))
|`(`bw')=>`((fun _=>True))
|`(`bx')=>`([some (nV n),some (nV L),some v,some (.ref fm),some (.ref tA),some (.ref sA),some (nV i),some (.ref dA),some (.ref eA),some vs,some (.ref cA),Tp,TD])
|`(`by')=>`(#[_,rfl,_,rfl,rm,CR,lC,_,_,rfl,qH,RC.cl,RC.f1,rfl,dk,none,rfl,l9.n px va,_,rfl,az (fun _=>az (fun _=>?_) fun z=>(by cases z)) fun z=>(by cases z)])
local macro_rules
|`(`bz')=>`((List.toArray [.int lo t,.int hi u,.int 1 s1.toks]))
|`(`bA')=>`((.ref f))
|`(`bB')=>`((iH (ha pos pins s σ H _ I h) fun us s1 ⟨vs,H1,I1,r,q⟩=>#[I1.kIn,?_]))
|`(`bC')=>`((k₀==NameKind.free&&sc.kind== .function&&sc.names.lookup n==some .cell))
|`(`bD')=>`((s.heap.push {cls:=.type "dict",data:=.dict #[]}))
|`(`bE')=>`((cP names))
|`(`bF')=>`((cn.same kb s'))
|`(`bG')=>`((if i<Ga.length then cj (Ga.drop i) else cj (Gb.drop (i - Ga.length))))
|`(`bH')=>`([replicate L 0])
|`(`bI')=>`(#[_,rfl,_,rfl,rb,M,kb.len,kb.letters,kb.size,Gb,mb,rfl,#[GE.same s1,Ev,KN,yb,El.len,El.let_,El.size],hM,fun H2 rt XA s2 hrt UH Ey=>?_])
|`(`bJ')=>`((by subst hk;exact c7.mpr fun z=>by have:n<=20/\k<=20:=v6.mp z;omega))
|`(`bK')=>`((fun e=>az (fun _=>k8 (.inl (by have:=af e;omega))) fun z=>nomatch z))
|`(`bL')=>`((fun x _ hx H2 NX s2 _ tk=>?_))
|`(`bM')=>`(["state"])
|`(`bN')=>`((bO (bO H lC (.own rm)) dk (.dK [])))
|`(`bO')=>`((fun i l _ nd h=>?_))
|`(`bP')=>`((X.blk s3 H3 scope ce fp))
|`(`bQ')=>`((he pins s σ H _ I h))
|`(`bR')=>`((l.map nV))
|`(`bS')=>`((HT.sIx xs.length 0 lo=0/\HT.sIx xs.length xs.length hi=xs.length))
|`(`bT')=>`(#[_,rfl,_,rfl,ra,M,ka.len,ka.letters,ka.size,Ga,ma,rfl,#[ED,GV,CS,yc,yf.len,yf.let_,yf.size],hM,fun H1 lf as1 s1 hlf UW CP=>?_])
|`(`bU')=>`((.lst (((l.drop (at_+1+n+1)).take z).map nV)))
|`(`bV')=>`(#[sH.trans sT,ys,sT _ _ S7,gt hR.d S7 (fun b o q _=>sT _ _ q) hp])
|`(`bW')=>`((fun s=>s != 0))
|`(`bX')=>`(#[hX (cM.filter _) fun x hx=>aL.mp (aO.mp hx).1,fun x t' hm=>?_])
|`(`bY')=>`(((lb.map (j5 M)).drop 1))
|`(`bZ')=>`((I.ok.hd hc))
|`(`b0')=>`((Or.inr rfl))
|`(`b1')=>`((aG (aY iU)))
|`(`b2')=>`((bb (fq (pv 0) aC)))
|`(`b3')=>`((by show l.length<=20;omega))
|`(`b4')=>`((cx G m))
|`(`b5')=>`([nV n,nV L,nV z,v,.ref fm,.ref fe])
|`(`b6')=>`((((HT.sIx items.size 0 lo:Nat):Int)==0&&(1:Int)==1&&(HT.sIx items.size items.size hi - HT.sIx items.size 0 lo)==items.size))
|`(`b7')=>`((by show n<=20;omega))
|`(`b8')=>`((.builtin "type.__call__" #[.ref C::us,kw]))
|`(`b9')=>`((bO H3 sA (.lst (as.map V.ref++[.ref eA]))))
|`(`ca')=>`((fun _=>true))
|`(`cb')=>`(["place","state"])
|`(`cc')=>`((kvs.any fun kv=>decide (kv.1=k)))
local macro_rules
|`(`cd')=>`((.tup xs))
|`(`ce')=>`((by rw[e];exact True.intro))
|`(`cf')=>`((fun i j:Int=>decide (i<j)))
|`(`cg')=>`(["a","b"])
|`(`ch')=>`((fun b ob hb q=>(sb.2 b (fun z=>hb (by simp[z]))).trans (hk b ob (fun z=>hb (by simp[z])) (fun z=>hb (by simp[z])) q)))
|`(`ci')=>`((.then_ a b))
|`(`cj')=>`((I.hok.fresh (ax _)))
|`(`ck')=>`((.lst (((l.drop (at_+1)).take n).map nV)))
|`(`cl')=>`((.lst ((V.int 0::L.map nV)++[nV kd.len])))
|`(`cm')=>`(#[_,rfl,_,rfl,rm,CR,lC,_,_,rfl,qH,RC.cl,RC.f1,rfl,dk,none,rfl,l9.n px vb,_,rfl,az (fun _=>?_) fun z=>(by cases z)])
|`(`cn')=>`((.lst (((fo.drop (t*k)).take k).map nV)))
|`(`co')=>`((.lst ((replicate L 0).map nV)))
|`(`cp')=>`((.ref l))
|`(`cq')=>`((Nat×Nat))
|`(`cr')=>`((by rw[aF] at h;omega))
|`(`ct')=>`((fun e=>az (fun _=>?_) fun z=>nomatch z))
|`(`cu')=>`((fun x _ hx H2 NX s2 sk tk=>?_))
|`(`cw')=>`((ho pins s σ H _ I h))
|`(`cx')=>`(#[_,rfl,_,rfl,_,rfl,r,al,kd.len,kd.letters,kd.size,G,m,ls,rfl,KD.at gd hK hG,hl,by omega,fun H1 t s1 ht Xu=>?_])
|`(`cy')=>`(#[fun b o e n hb hx=>?_,fun b o e n hb hx=>?_,I.base.free,fun b o e hx=>?_,I.base.tups,I.base.frzs,I.base.tbls])
|`(`cz')=>`(((List.range (min x K.letters)).map ((opened K).by_ i p)))
|`(`cA')=>`((Dn M mv (fun i t=>i<n/\Iv i t) fun H=>FnAt H fm fd/\C H))
|`(`cB')=>`(#[xs.length - (i+1),by omega,rfl,jB,p'])
|`(`cC')=>`((.lst ys))
|`(`cD')=>`((.tup [nV 0,nV mb]))
|`(`cE')=>`((l.length==l.length&&l.all fun m=>decide (m<2^l.length)))
|`(`cF')=>`(["kind","number"])
|`(`cG')=>`(#[_,rfl,_,rfl,_,rfl,ra,C,dx,_,_,rfl,x1,KC.cl,KC.f2,rfl,_,rfl,rb,C,Bm,_,_,rfl,Jl,KC.cl,KC.f2,rfl,_,_,rfl,?_])
|`(`cH')=>`(#[len,fun A outer s H args us vs Q E hr e0 hb r BE=>?_])
|`(`cI')=>`((.lst ((qz en (fX mv L s0 n)).map nV)))
|`(`cJ')=>`((HT.sIx xs.length xs.length hi - HT.sIx xs.length 0 lo))
|`(`cK')=>`((bO H4 l (.tup ((cH names c).map nV))))
|`(`cL')=>`(#[rfl,_,rfl,_,rfl,nm,_,_,nV (names.getD n 0),rfl,rfl,SqL.of (s4 _ _ (s2 _ _ hN Us)),bx ?_,_,Jd,?_,?_,?_])
|`(`cM')=>`((.lst cR))
|`(`cN')=>`((Gv CX P w K mg base N qual scope f cdv A outer s H E))
|`(`cO')=>`((aa (pv 4) aB))
|`(`cP')=>`((aa (pv 5) aB))
|`(`cQ')=>`((ak×Obj))
|`(`cR')=>`((.lst [.int 0]))
|`(`cS')=>`((aJ ?_))
local macro_rules
|`(`cT')=>`((bO H4 q0 (.lst (dn.map nV++[nV x]))))
|`(`cU')=>`((fun vs H Q E ⟨_,_,_,_,_,c,_⟩=>c))
|`(`cV')=>`((nb nh hp ?_))
|`(`cW')=>`((.lst (aW.map nV)))
|`(`cX')=>`(#[_,rfl,a,_,rfl,.inl (SqL.of ha),?_])
|`(`cY')=>`(((fj L b.1 (dm (mv i) L sts).2).1.idxOf (cH b.1 ch)))
|`(`cZ')=>`((List.toArray [x,y]))
|`(`c0')=>`((PySem.W.instObj C s.heap.objs.size))
|`(`c1')=>`((by rw[hl];exact hx))
|`(`c2')=>`((cH names c))
|`(`c3')=>`((cR K i p))
|`(`c4')=>`((fun k s=>if i<=k/\k<i+n/\Iv k s then mv k s else[]))
|`(`c5')=>`((gn hT kb qe sF))
|`(`c6')=>`((r.length=a.len))
|`(`c7')=>`((yM (P:=P) (w:=w) (base:=base) S.r.fn S.kc T.toTxt4))
|`(`c8')=>`(["length","letters","start","moves"])
|`(`c9')=>`(["total","n","least","most"])
|`(`da')=>`((.dK kvs))
|`(`db')=>`(["n","k"])
|`(`dc')=>`(#[hT,fun fm fd H1 yG u7 lF sK lW=>#[_,rfl,_,rfl,_,rfl,lF,fun fe sm H2 QL Em sF rB qK base g=>?_]])
|`(`dd')=>`(#[lC,_,aM.new hl _ _ (Ji _ _ qH hmd),aM.new hl _ _ e1,?_,?_,Uu.of fun b o e _ _=>aM.new hl _ _ e])
|`(`de')=>`((b∈X.ex\/X.s_0.heap.objs.size<=b))
|`(`df')=>`((dw hz rfl (x:=.bool false) rfl ?_))
|`(`dg')=>`((fun b o hb e=>(sb.2 b hb).trans e))
|`(`dh')=>`((iH (ha pos pins s σ H _ I h) fun us s1 ⟨vs,H1,I1,r1,q1⟩=>hc pins s1 σ H1 vs us Q I1 r1 q1))
|`(`di')=>`(#[rfl,_,rfl,_,rfl,by show 2<=sizeLine;decide,fun b hb=>tk rfl _ _ (aM.new hb) #[b,_,rfl,aq,rfl]])
|`(`dj')=>`((.lst ((Bj++qL).map V.ref)))
|`(`dk')=>`((wD hh (h1.extBut hs₁.extBut D.i1z) (rC.extBut hs₁.extBut D.l1z) hx fun h₂ e hs₂ he=>?_))
|`(`dl')=>`(["n","start","end","masks"])
|`(`dm')=>`(#[fun i m H=>m=l.length - i/\i<=l.length/\nE R p (Dh l) H1 D i H,#[l.length,rfl,aN _,qW hD],?_])
|`(`dn')=>`((iH (h pos pins s σ H _ I hq) fun us s1 ⟨xs,H1,I1,r,z,q⟩=>#[by rw[<-r.length];exact z,?_]))
|`(`do')=>`((v6.mpr #[h1,h2]))
|`(`dp')=>`(#[trivial,?_])
|`(`dq')=>`((bb (da (pv 1) aC)))
|`(`dr')=>`((bb (fq (pv 1) aC)))
|`(`ds')=>`((.tup ((l.take x).map nV)))
|`(`dt')=>`((by cases e))
|`(`du')=>`((by simp only[bn]<;>omega))
|`(`dv')=>`((cw.same sF s'))
|`(`dw')=>`((ka.len - j))
local macro_rules
|`(`dx')=>`((kvs.map fun kv=>if kv.1=k then(kv.1,y) else kv))
|`(`dy')=>`((x==("__classdict__":Str)))
|`(`dz')=>`([.ref r,.ref a])
|`(`dA')=>`((wpAny_specialOf (r:=none) hT (by rw[typeLookup_type,builtinLookup_eq_fast];kernel_rfl) ?_))
|`(`dB')=>`(#[_,rfl,_,rfl,ra,rb,ka,kb,rfl,hA,hB,hm,hs,ht,q])
|`(`dC')=>`(#[fun i m σ H=>m=xs.length - i/\i<=xs.length/\Pv i σ H,#[xs.length,by simp,aN _,h0],?_])
|`(`dD')=>`((fun b ly=>k4 H b ly))
|`(`dE')=>`(((ly.getD m []).getD x 0))
|`(`dF')=>`((.lst (oA.map V.ref++[.ref l1])))
|`(`dG')=>`((aI ..))
|`(`dH')=>`((e::es))
|`(`dI')=>`((fun z=>nomatch z))
|`(`dJ')=>`((ie σ vs))
|`(`dK')=>`((nW K s1.heap A))
|`(`dL')=>`(["layers","left","right"])
|`(`dM')=>`((fun b hb=>#[(hf b hb).2.2.2.1,(hf b hb).2.1,(hf b hb).2.2.2.2.1,(hf b hb).2.2.2.2.2]))
|`(`dN')=>`(#[n - (i+1),by omega,rfl,jB,p'])
|`(`dO')=>`((dw hz rfl (x:=.ref TI) rfl ?_))
|`(`dP')=>`((gA K "Room"))
|`(`dQ')=>`(#[_,rfl])
|`(`dR')=>`((.ref p))
|`(`dS')=>`((bO H s.heap.objs.size (.tup [xs[i],ys[i]])))
|`(`dT')=>`((r.take (i+1)))
|`(`dU')=>`((tS rfl rfl rfl rfl))
|`(`dV')=>`(#[fun i m H=>m=xs.length - i/\i<=xs.length/\Pv i H,#[xs.length,by simp,aN _,h0],?_])
|`(`dW')=>`((((List.range M).find? (mZ ly a b)).getD 0))
|`(`dX')=>`((.tup ((l.drop (x+1)).map nV)))
|`(`dY')=>`((fC x x st (gD K (gA K x)) (.ref (cA K x))))
|`(`dZ')=>`((if([]:List Keyword).isEmpty then 0 else 1))
|`(`d0')=>`((wW (P:=P) (w:=w) (base:=base) A5.r.fn T S))
|`(`d1')=>`([.ref ra,.ref rb])
|`(`d3')=>`((a==sysModules))
|`(`d4')=>`((eT iQ qf.typeIs F.entry_tuple_iterator_next ?_ (F.args_tuple_iterator_next_1 _)))
|`(`d5')=>`((fun b o e h1 h2=>Tx _ _ (BF b o e h1) h2))
|`(`d6')=>`((two (some p) (some q)))
|`(`d7')=>`((.lst (as.reverse.map V.ref)))
|`(`d8')=>`((.lst (oA.reverse.map V.ref)))
|`(`d9')=>`((.lst (qB.reverse.map V.ref)))
|`(`ea')=>`((.ref it))
|`(`eb')=>`((.tup ys))
local macro_rules
|`(`ec')=>`((fun x1 x2=>x1++x2))
|`(`ed')=>`((envOfC qual scope s.heap.objs.size f cd))
|`(`ee')=>`((if k=f then(k,v)::r else(k,x)::rT f v r))
|`(`ef')=>`(#[FnAt.same s a,hC H H' s b])
|`(`eg')=>`((by cases z))
|`(`eh')=>`((fun a b=>k6))
|`(`ei')=>`((fun i p x q hp e=>?_))
|`(`ej')=>`((fy (fy (ax _))))
|`(`ek')=>`((gA K "Kind"))
|`(`el')=>`([(false,eval e X.env)])
|`(`em')=>`(#[gJ fun z=>this.1 (Or.inl z),c7.mpr fun z=>this.1 (Or.inr (Or.inl z)),rfl])
|`(`en')=>`(#[_,rfl,_,#[al,ls,rfl,hl,rfl],ht,qn,qs])
|`(`eo')=>`((.lst (gs.map nV)))
|`(`er')=>`((.lst (ws.map nV)))
|`(`et')=>`((.parts cf n most))
|`(`eu')=>`((List.range L))
|`(`ev')=>`((Wqarao.opened kd))
|`(`ew')=>`((by simpa using h))
|`(`ey')=>`((fun _ s p=>p=[s]))
|`(`ez')=>`((show i - Ga.length<Gb.length by omega))
|`(`eA')=>`(["kind","letters"])
|`(`eB')=>`(#[_,a7 _ rfl,rfl,rfl])
|`(`eC')=>`((.lst (ts.map V.ref)))
|`(`eD')=>`((.ref z))
|`(`eE')=>`((fun i t hi sE=>#[?_,fun x t' CQ=>?_]))
|`(`eF')=>`((gA K "__builtins__"))
|`(`eG')=>`((some v))
|`(`eH')=>`([.ref a])
|`(`eI')=>`((PySem.W.fnOf x qual (ue st) (oZ st) (aw st) .none kV doc pm an cdv ct))
|`(`eJ')=>`(#[o,e,fun v z=>by rw[d] at z;cases z])
|`(`eK')=>`(#[v,H',J.os,J.bare,J.base,J.hok,rv,q])
|`(`eL')=>`(#[x,by omega,e])
|`(`eM')=>`((.tup [.int (i:Nat),nV x]))
|`(`eN')=>`((bO H h'.objs.size (.frz (ur fd) uT)))
|`(`eO')=>`((bq (pv 2) rfl))
|`(`eP')=>`((c.map fun y=>ws.getD y 0))
|`(`eQ')=>`((cF (bD (a8 e) (I.ok.cab x c En hc))))
|`(`eR')=>`((fun s=>en (s.getD 0 0) (s.getD 1 0)))
|`(`eS')=>`((if 6<=t\/kd.may=false then _ else _))
|`(`eT')=>`((vs.toArray.toList.map EK))
local macro_rules
|`(`eU')=>`((2^aW.length<=mx))
|`(`eV')=>`((by rw[be];omega))
|`(`eW')=>`((fun j H3=>aM H' H3/\H3 D=some (.lst (((cH names c).take j).map nV))))
|`(`eX')=>`((by intro y;cases y))
|`(`eY')=>`((fun b ob q=>ap _ q))
|`(`eZ')=>`(["total","n","most"])
|`(`e0')=>`(#[xs,xs[i],q,by simp[jB]])
|`(`e3')=>`((.begins a p))
|`(`e4')=>`((.builtin id))
|`(`e5')=>`((Ga.drop i))
|`(`e6')=>`((Gb.drop i))
|`(`e7')=>`((Value.ref d==Value.none))
|`(`e8')=>`((apos.endLine==cpos.line))
|`(`e9')=>`((fun b (m:Nat×κ)=>∃v,H b=some (.tup [nV m.1,v])/\M.rep H v m.2))
|`(`fa')=>`((fun h=>?_))
|`(`fb')=>`((lJ (cX (name:=ofString "__next__") hT ir (eT ir hT nt ?_ (mL _)))))
|`(`fc')=>`((ps.zip us))
|`(`fd')=>`(["n","drawn"])
|`(`fe')=>`((fun a b=>placeBefore a.1 b.1=true))
|`(`ff')=>`((fun x hx H4 TT NX s4 Bi sk tk=>?_))
|`(`fg')=>`(#[fun i m σ H=>m=n - i/\i<=n/\Pv i σ H,#[n,by simp,aN _,h0],?_])
|`(`fh')=>`((PySem.W.fnOf name qual params body scope dV kV doc pm an cdv ct))
|`(`fi')=>`(#[n0,n1,rfl,(aP h).symm])
|`(`fj')=>`((.builtin "max"))
|`(`fk')=>`((.ins C dx fs))
|`(`fl')=>`((Sm fun i j=>.int (i+j)))
|`(`fm')=>`((by simpa using hu))
|`(`fn')=>`((c.getD x 0≠0))
|`(`fp')=>`((fun _ _ t=>k4.same t s))
|`(`fq')=>`((gn hT kb qe lF))
|`(`fr')=>`((onward K i l))
|`(`ft')=>`((p.drop i))
|`(`fu')=>`(["place","node"])
|`(`fv')=>`(((q.bind fun(p:Place)=>b.step p i x).any fun p=>cR b (i+1) p r))
|`(`fw')=>`(#[q,_,_,rfl,rfl,h1,by rw[ae];exact KQ,_,_,rfl,s6.put uh,?_,?_])
|`(`fx')=>`((aM.new hp (o:=.tup (cs.map nV))))
|`(`fy')=>`((aM.new hp (o:=.tup [nV 0,nV 0])))
|`(`fz')=>`((by rw[qy hall];exact aU (PySem.W.length_le_weightAllW ds) z2))
|`(`fA')=>`((ps++ (List.toArray [rawInt pos.line,rawInt pos.col,.ref c'])))
|`(`fB')=>`([V.int (Builtin.bitOr (m:Int) ((1:Int)*2^(x:Int).toNat)),nV x])
local macro_rules
|`(`fC')=>`(((X4.drop 1).map V.ref))
|`(`fD')=>`(((pb.drop 1).map V.ref))
|`(`fE')=>`((Gu bm sl (K w.params)))
|`(`fF')=>`((fun r=>gY mv en 0 s r))
|`(`fG')=>`((hs₁.extBut _ _ c1 e))
|`(`fH')=>`((if 6<=t then _ else _))
|`(`fI')=>`(["kind","first","many"])
|`(`fJ')=>`(["nodes","ways_behind"])
|`(`fK')=>`((.less c d))
|`(`fL')=>`((.lst (ls.map nV)))
|`(`fM')=>`((.ref C))
|`(`fN')=>`((Es.map V.int++[.int ((Do (Wqarao.step s x).2).length:Int)]))
|`(`fO')=>`((PyWqarao.whole c))
|`(`fP')=>`((aM.new hb))
|`(`fQ')=>`((aM.new hp))
|`(`fR')=>`((l.length+1))
|`(`fS')=>`((mapSeq (fun _=>(#[]:Array aA))))
|`(`fT')=>`(["n","high","end"])
|`(`fU')=>`((Nat×List Nat))
|`(`fV')=>`((Str×ak))
|`(`fW')=>`((cw.same lF s'))
|`(`fX')=>`((fnX name qual params body scope cl dV kV doc pm an cdv ct))
|`(`fY')=>`(["self","call"])
|`(`fZ')=>`(#[_,rfl,b,_,1,nV y,rfl,rfl,iX.of hb,bx rfl,_,_,rfl,rfl,?_])
|`(`f0')=>`(#[_,rfl,h])
|`(`f1')=>`(#[fun t q=>by cases q;exact#[_,rfl,rfl],fun q=>by cases q])
|`(`f3')=>`((a7 _ rfl))
|`(`f4')=>`((bD (a8 e) I.ok.above))
|`(`f5')=>`((by rw[ae];exact ax _))
|`(`f6')=>`((fX mv L s i))
|`(`f7')=>`((fun a b=>placeBefore b a=true))
|`(`f8')=>`((fun x=>RR.num L n (RR.tl f x)))
|`(`f9')=>`((fun x=>decide (i<=x)))
|`(`ga')=>`((gU X.env.cells scope.names []))
|`(`gb')=>`((keywordEach QP X.env))
|`(`gc')=>`((keywordEach [] X.env))
|`(`gd')=>`((ly::rest))
|`(`ge')=>`((rW Ga Gb mb))
|`(`gf')=>`((s2.trans s3))
|`(`gg')=>`(#[_,rfl,by show 1<=sizeLine;decide,fun p hp=>#[_,rfl,?_]])
local macro_rules
|`(`gh')=>`((.tup (k.map kV)))
|`(`gi')=>`((aW.getD x 0&&& t=aW.getD x 0))
|`(`gj')=>`((show b∈([]:List ak) from z))
|`(`gk')=>`(["masks","place"])
|`(`gl')=>`(["n","k","moves"])
|`(`gm')=>`([nV st,nV k,nV ac,nV n,.ref a])
|`(`gn')=>`((.lst (Bj.map V.ref)))
|`(`go')=>`((.lst (Xd.map V.ref)))
|`(`gp')=>`((.lst (qL.map V.ref)))
|`(`gq')=>`((I1.hok.fresh (ax _)))
|`(`gr')=>`((aJ ⟨_,rfl,aJ h⟩))
|`(`gt')=>`((fun _ _ _ _ _=>pv 5))
|`(`gu')=>`((fun i σ H' _ ⟨_,_,_,s2,_⟩=>SqL.of (s2 _ _ hA Nz)))
|`(`gv')=>`((iH (hc pins s σ H _ I h) fun d s1 ⟨H1,I1,q1⟩=>?_))
|`(`gw')=>`(#[.int ys.length,H,I.tok _,#[s.toks+1,by rw[bn,fY]],q])
|`(`gx')=>`((G.length - i))
|`(`gy')=>`((N.take (ps.length+F.length)))
|`(`gz')=>`((aa (pv 7) aB))
|`(`gA')=>`((g0 mv L))
|`(`gB')=>`((ns.map V.int))
|`(`gC')=>`(["masks"])
|`(`gD')=>`(#[Or.inl,fun h=>h.elim id fun⟨_,h,_⟩=>by cases h])
|`(`gE')=>`(#[_,ho,rfl])
|`(`gF')=>`(#[fun z=>by injection z with z;omega,fun z=>by rw[z]])
|`(`gG')=>`((model P w))
|`(`gH')=>`((n - 1 - i))
|`(`gI')=>`((vs.map EK))
|`(`gJ')=>`(#[_,rfl,_,rfl,fun Jg gr=>?_])
|`(`gK')=>`((.Subscript o i pos))
|`(`gL')=>`((.builtin "len"))
|`(`gM')=>`((.join t (nH c) a b))
|`(`gN')=>`((Value.ref s.heap.objs.size))
|`(`gO')=>`((fun m CQ=>by have:=Uw m (aV.mpr #[m,CQ,rfl]);omega))
|`(`gP')=>`((if f []=true then 1 else 0))
|`(`gQ')=>`((l.getD i 0))
|`(`gR')=>`(["n","partners"])
|`(`gS')=>`([kd.len,kd.letters,kd.size,(Wqarao.opened kd).count])
|`(`gT')=>`((7<aW.length\/(∃m∈aW,2^aW.length<=m)->Q .non H))
|`(`gU')=>`((Builtin.«tuple.__mul__» #[[.ref l,.int x u],[]]))
|`(`gV')=>`((bO Hf wy (.lst ((xQ++[wl]).map V.ref++[.ref l3]))))
local macro_rules
|`(`gW')=>`((fun _ s'=>∃σ' H',cB X pins σ' H' s'/\Q σ' H'))
|`(`gX')=>`((gt hR GI tk (gt hR yd (fun b o q _=>s5 _ _ q) hp)))
|`(`gY')=>`(#[n0,n1,n2,rfl,(aP h).symm])
|`(`gZ')=>`(#[rfl,fun ys hy=>by rw[I.list_inj hy hq];exact hx])
|`(`g0')=>`((DQ (TB:=TB) MK.fn KC RC T))
|`(`g1')=>`((I.base.keep b o e n hb hx))
|`(`g6')=>`((if v<0 then max (v+(n:Int)) 0 else min v (n:Int)))
|`(`g7')=>`((s.length=K.len - r.length))
|`(`g8')=>`((s3.heap.push {cls:=.type "dict",data:=.dict #[]}))
|`(`g9')=>`(#[td,rfl])
|`(`hb')=>`((.Name x pos))
|`(`hd')=>`((.dT kvs))
|`(`he')=>`((.either a b))
|`(`hf')=>`((.lst (row.map nV)))
|`(`hg')=>`((aK _ hy))
|`(`hh')=>`((bO H' nd (.dT [])))
|`(`hi')=>`((bb (da (pv 2) aC)))
|`(`hj')=>`((if v<0 then(v+(n:Int)).toNat else min v.toNat n))
|`(`hk')=>`((kla_fn name qual params body scope cl pm cdv ct))
|`(`hl')=>`((oF G i nd x))
|`(`hm')=>`((show ¬((Value.ref t==Value.none)=true) from c8))
|`(`ho')=>`((tC (.int 1)))
|`(`hp')=>`((by simp;omega))
|`(`hq')=>`((d==sysModules))
|`(`hr')=>`((fun b (c:List Nat)=>H b=some (.lst (c.map nV))))
|`(`hs')=>`((fun c v hc q=>k c v ?_ q))
|`(`ht')=>`((fun z h2 Tk k2=>by omega))
|`(`hw')=>`((gA K x))
|`(`hz')=>`((hi pins s1 σ H1 _ I1 q1))
|`(`hA')=>`((ij P w))
|`(`hB')=>`((mv i t))
|`(`hC')=>`((pw.kindOf y=some .cell\/pw.kindOf y=some .free))
|`(`hD')=>`(#[T',_,rfl,iX.of aq,rfl,_,_,rfl,_,_,rfl,rfl,?_])
|`(`hE')=>`(#[o,es,ep,k _ o (fun z=>(hf _ z).2.1 rfl) ho,r])
|`(`hG')=>`((by first|rfl| (simp only[firstArgMember];rfl)))
|`(`hH')=>`(#[_,rfl,q H' q0 s2 uh ?_])
|`(`hI')=>`(#[rfl,rfl])
|`(`hJ')=>`(#[ys,s5 _ _ yd,?_,fun b o q=>?_,ys++[y],aq,?_])
|`(`hK')=>`(((u:Int)/2^(x:Int).toNat))
|`(`hL')=>`((.frz fo u))
local macro_rules
|`(`hM')=>`((.less a b))
|`(`hN')=>`((Option aA))
|`(`hO')=>`((aa aC (aa aC aB)))
|`(`hP')=>`((by decide:1<=420))
|`(`hQ')=>`((by rw[I.ok.glob];exact I.mod.glob.keeps I.bk))
|`(`hR')=>`((cw.but TC MF Tx Bi.symm))
|`(`hS')=>`((iF (pv 4)))
|`(`hT')=>`((j5 M (ly.getD (x+1) [])))
|`(`hU')=>`((s2 _ _ ha))
|`(`hV')=>`((vt I hg hm ?_ Ex))
|`(`hW')=>`((!(scope.names.lookup x==some NameKind.free)))
|`(`hX')=>`((fun b o e _ hb=>aM.new hl _ _ (Ji b o e hb)))
|`(`hY')=>`(#[its.toList,o,n,hv,KX _ _ e,hc,by simp[hd]])
|`(`hZ')=>`(#[us,[]])
|`(`h0')=>`((.lst [.ref q1,.ref q2]))
|`(`h1')=>`((.ref q0))
|`(`h2')=>`((.ref t))
|`(`h7')=>`((F.args_tuple_mul_2 _ _))
|`(`h8')=>`((I.base.free b o e n hx))
|`(`h9')=>`((KE (P:=P) (w:=w) (base:=base) S.n.fn T S.o))
|`(`ia')=>`((List.range M))
|`(`ib')=>`((cA K x))
|`(`ic')=>`((cP names z c))
|`(`id')=>`((eY.mp hnT (b,_) (PySem.W.mem_of_lookupK e)))
|`(`ie')=>`((fun b o hb e=>kk b o (by simpa using hb) e))
|`(`if')=>`((h.push {cls:=.type "dict",data:=.dict #[]}))
|`(`ig')=>`((if before x y=true then some x else some y))
|`(`ih')=>`((if(b:Int)< (a:Int) then(b:Int) else(a:Int)))
|`(`ii')=>`((start N vs))
|`(`ij')=>`(#[[],(bU _).symm])
|`(`ik')=>`(#[_,by omega,rfl])
|`(`il')=>`(#[by show 1<=sizeLine;decide,fun p0 GX=>?_])
|`(`im')=>`(#[by show 2<=sizeLine;decide,fun b' CV=>?_])
|`(`in')=>`(((mv i s).lookup x=none->K.step p i x=none))
|`(`io')=>`(((p,w)::P.zip vs))
|`(`ip')=>`((.Name "range" p))
|`(`iq')=>`((.Tuple Nq kk GS))
|`(`ir')=>`((.derangements n))
|`(`is')=>`((.int kvs.length))
|`(`it')=>`((.lst (p.map nV)))
local macro_rules
|`(`iu')=>`((.tup (c.map nV)))
|`(`iv')=>`((bO (bO H lC (.own rm)) rm (.ins CR lC [])))
|`(`iw')=>`((by rw[ae];omega))
|`(`ix')=>`((cJ gx (pv 1) aC))
|`(`iy')=>`((cJ gx (pv 3) aC))
|`(`iz')=>`((fun b o _ _ hc e _=>#[o.slots,k b o hc e]))
|`(`iA')=>`((fun s p hp=>rfl))
|`(`iB')=>`((fun vs H Q _=>∃v,vs=[v]/\Q (.bl true) H))
|`(`iC')=>`((ka.len≠kb.len))
|`(`iD')=>`((n - i))
|`(`iE')=>`(["place","least"])
|`(`iF')=>`([(false,eval a X.env),(false,eval b X.env)])
|`(`iG')=>`(#[_,rfl,fun base g=>?_])
|`(`iH')=>`(#[by show 1<=sizeLine;decide,fun a ha=>?_])
|`(`iI')=>`(#[by show 1<=sizeLine;decide,fun q hq=>?_])
|`(`iJ')=>`(#[by show 2<=sizeLine;decide,fun b hb=>?_])
|`(`iK')=>`((HT.sIx xs.length 0 lo))
|`(`iL')=>`((Jv M en (Iv n) fun H=>FnAt H fe sm/\CE H))
|`(`iM')=>`((ah (wpAny_onRaise ?_)))
|`(`iN')=>`((b3 _ (b3 _ (uP hb e))))
|`(`iO')=>`((fun i v=>∃en,es[i]? =some en/\v=en.key))
|`(`iP')=>`((fun x=>decide (x+1=y)))
|`(`iQ')=>`((iH (ha pins s σ H Q I h) fun c s1 e=>?_))
|`(`iR')=>`(#[D,_,rfl,.inl #[SqL.of Jd,fun l hl=>?_]])
|`(`iS')=>`(((List.range n).map fun i=>V.int (i:Nat)))
|`(`iT')=>`((Cz (P:=P) (w:=w) (base:=base) S.fn KC T))
|`(`iU')=>`((fun h' c' kp e=>oH its r' hz h' c' kp e))
|`(`iV')=>`(#[.bl _,H1,I1,by rw[r1.none_iff];rfl,q1])
|`(`iW')=>`(#[0,0,0,0])
|`(`iX')=>`(((List.range M).map f))
|`(`iY')=>`(((Sum.inl (f.1:Int):nB)=Sum.inl (c:Int)))
|`(`iZ')=>`((.Call (.Name "enumerate" p) [e] [] pos))
|`(`i0')=>`((.frz o u))
|`(`i1')=>`((.involutions n))
|`(`i2')=>`((.lst (xs++[y])))
|`(`i3')=>`((.own x))
|`(`i4')=>`((.ref b))
|`(`i5')=>`((.shares cf n jd most))
|`(`i6')=>`((20<n\/20<k->Q .non H))
|`(`i7')=>`((Ff (P:=P) (w:=w) (base:=base) SA.fn X5))
local macro_rules
|`(`i8')=>`((IsRange.new ..))
|`(`i9')=>`((PySem.W.instObj C dx))
|`(`ja')=>`((RR.getD_mem hm))
|`(`jb')=>`((bO H a o))
|`(`jc')=>`((by rw[<-j4];exact hu))
|`(`jd')=>`((cH names ch))
|`(`je')=>`((fun _ _ s z=>s _ _ z))
|`(`jf')=>`((fun x hx=>#[(h x hx).1,(h x hx).2.1 z]))
|`(`jg')=>`((getD_mem hm))
|`(`jh')=>`((h pins s σ H Q I hw))
|`(`ji')=>`((h pins s σ H _ I hw))
|`(`jj')=>`((hi pins s σ H _ I h))
|`(`jk')=>`((ka.len - 1 - j))
|`(`jl')=>`((opened K))
|`(`jm')=>`((rawInt T))
|`(`jn')=>`((row.take (i+1)))
|`(`jo')=>`((s5.trans s6))
|`(`jp')=>`(["kind","drawn"])
|`(`jq')=>`(["node"])
|`(`jr')=>`(["place","left"])
|`(`js')=>`(["place","used"])
|`(`jt')=>`(#[_,rfl,?_])
|`(`ju')=>`(#[h1,h2,h3])
|`(`jv')=>`(#[o,ho,fun v q=>by rw[hd] at q;cases q])
|`(`jw')=>`((.both a b))
|`(`jx')=>`((.tbl ps))
|`(`jy')=>`((Cq (P:=P) (w:=w) (base:=base) S.fn X5))
|`(`jz')=>`((Row->Bool))
|`(`jA')=>`((aY (pv 3)))
|`(`jB')=>`((fun _=>?_))
|`(`jC')=>`((fun c KM t=>k4.same t (fun b o e=>?_)))
|`(`jD')=>`((lJ (cX hT ir (eT ir hT nt ?_ (mL _)))))
|`(`jE')=>`([nV n,nV k])
|`(`jF')=>`([s1.heap.objs.size+1,s1.heap.objs.size])
|`(`jG')=>`(#[l.length - (i+1),by omega,rfl,jB,I'])
|`(`jH')=>`(#[n0,rfl,(aP h).symm])
|`(`jI')=>`((((fo.drop (t*k)).take k).getD x 0<st))
|`(`jJ')=>`(((Wqarao.opened kd).row (gs.getD 0 0)))
|`(`jK')=>`(((dc _ _ (je Nb)).trans (kp b o MJ e)))
|`(`jL')=>`(((r++s).length=K.len))
local macro_rules
|`(`jM')=>`(((r++s).length=a.len))
|`(`jN')=>`((.lst (Es.map V.int)))
|`(`jO')=>`((Sm fun i j=>.int (Builtin.bitOr i j)))
|`(`jP')=>`((fun c q=>by rw[aZ (a9 q hn)];exact q))
|`(`jQ')=>`((fun i l hi nd h=>?_))
|`(`jR')=>`((getD_mem (d:=[]) hm))
|`(`jS')=>`((l.take (wordsFor n)))
|`(`jT')=>`((sIx items.size 0 lo))
|`(`jU')=>`((some (.builtin "object.__setattr__")))
|`(`jV')=>`([.ref ra,.ref rb,nV M,.ref fg,.ref fe])
|`(`jW')=>`(⟨fun t q=>(by cases q),fun _=>rfl⟩)
|`(`jX')=>`(#[_,_,L.gl t.g,t.f.k,t.fn.binds b,ok])
|`(`jY')=>`(#[lF,fun fm MH H1 yG u7 TC lI lW=>?_])
|`(`jZ')=>`(#[nd,_,rfl,D6.t (s3 _ _ hD) hb Uj,?_])
|`(`j0')=>`((.tup [.int 0]))
|`(`j1')=>`((Dn M mv Iv fun H=>FnAt H fm fd/\C H))
|`(`j2')=>`((binaryOp .Add))
|`(`j3')=>`((by rw[Jo];rfl))
|`(`j4')=>`((c=27->1<gs.length/\gs.getD 0 0<2^63))
|`(`j5')=>`((db (aa aC aB)))
|`(`j6')=>`((fun _ _ t=>(k4.same t s3).but ME Zy))
|`(`j7')=>`((fun b u e=>?_))
|`(`j8')=>`((replicate n n))
|`(`j9')=>`((xP (P:=P) (w:=w) (base:=base) FI CL))
|`(`ka')=>`([("default",d)])
|`(`kb')=>`([.Call (.Name "zip" p2) [e,e2] [] Bo])
|`(`kc')=>`([.int i,.int j])
|`(`kd')=>`(#[#[.none,he],qf,Nat.succ_ne_self _])
|`(`ke')=>`(#[hG.1,hG.2.1,hG.2.2.1,fun r hr=>?_])
|`(`kf')=>`(#[σ',H',I.unwish,q])
|`(`kg')=>`(((opened K).by_ i p))
|`(`kh')=>`((.lst (((l.drop tk).take k).map nV)))
|`(`ki')=>`((.tup [nV ma,nV mb]))
|`(`kj')=>`((List.toArray [v,v]))
|`(`kk')=>`((W.frame _ _ _ Bh fun b hbf o e=>?_))
|`(`kl')=>`((by rw[NL];exact hz))
|`(`km')=>`((fun _ _ _ _ h _=>h))
|`(`kn')=>`((fun b o e hb=>kb b o (s' _ _ e) hb))
|`(`ko')=>`((fun b o e hb=>s' _ _ (WL b o e hb)))
|`(`kp')=>`((fun b o e hb=>s' _ _ (kb b o e hb)))
local macro_rules
|`(`kq')=>`((fun z:S=b=>Tg (by rw[z];exact hbf)))
|`(`kr')=>`((h1.trans z))
|`(`ks')=>`((l.length/2))
|`(`kt')=>`((most+1))
|`(`ku')=>`((starEach [e] X.env))
|`(`kv')=>`((u4 X scope))
|`(`kw')=>`(["children"])
|`(`kx')=>`(["n","used"])
|`(`ky')=>`(["total","n","least","most","moves"])
|`(`kz')=>`([.Call (.Name "range" p2) [e] [] Bo])
|`(`kA')=>`(#["tuple",_,dZ.lookup,ht.typeIs,?_])
|`(`kB')=>`(#[fun t q=>(by cases q),fun _=>rfl])
|`(`kC')=>`(((fun x y:Nat=>x != 0&&y != 0) x y))
|`(`kD')=>`(((fun x y:Nat=>x != 0||y != 0) x y))
|`(`kE')=>`((0<i/\(if i%2=1 then x<l else l<x)))
|`(`kF')=>`((CM hz Bi fun h₁ hz₁ hs₁=>?_))
|`(`kG')=>`((hs₂.extBut _ _ D.i1z.symm hz₁))
|`(`kH')=>`((rI V2 fun i j=>.int (i*2^j.toNat)))
|`(`kI')=>`(["place","left","least","most","x"])
|`(`kJ')=>`(#[_,SqL.of BG])
|`(`kK')=>`(#[_,e,rfl])
|`(`kL')=>`((.choices n k))
|`(`kM')=>`((.error e))
|`(`kN')=>`((.int i t))
|`(`kO')=>`((.ref i1))
|`(`kP')=>`((.ref i2))
|`(`kQ')=>`((B.1.getD 1 0))
|`(`kR')=>`((Dn M mv (fun i t=>i<n/\Iv i t) C))
|`(`kS')=>`((F.args_dict_keyiterator_next_1 _))
|`(`kT')=>`((aa (pv 9) aB))
|`(`kU')=>`((bb (fq (pv 2) aC)))
|`(`kV')=>`((by rw[z];exact hb))
|`(`kW')=>`((by simpa using hv))
|`(`kX')=>`((by size_fits))
|`(`kY')=>`((cG kd))
|`(`kZ')=>`((eval e X.env))
|`(`k0')=>`((eval o X.env))
|`(`k1')=>`((fX mv L s0 n))
|`(`k2')=>`((fh yC rfl ?_))
|`(`k3')=>`((fun _ _ q=>ap _ q))
local macro_rules
|`(`k4')=>`((fun b ps e=>#[#[],by rw[e];simp]))
|`(`k5')=>`((fun m hm=>?_))
|`(`k6')=>`((fun v H2=>v= .non/\Q (.ref x) H2))
|`(`k7')=>`((fun x _ hx H2 NX s2 yd sk tk=>?_))
|`(`k8')=>`((fun x=>x.1.isSome))
|`(`k9')=>`((fun z=>f z.1))
|`(`la')=>`((hm b _ q fun z=>z))
|`(`lb')=>`((k - g x))
|`(`lc')=>`((kL fun l=>.extensions l l.length))
|`(`ld')=>`((lo+(i:Nat)*c))
|`(`le')=>`((mA K C "__init__"))
|`(`lg')=>`((nW K h A))
|`(`lh')=>`((neC b o e hx))
|`(`li')=>`((r.drop a.len))
|`(`lj')=>`((s2 _ _ ye Nm))
|`(`lk')=>`((some (x:Int)))
|`(`ll')=>`((t.getD x n=n))
|`(`lm')=>`((vs++dvs))
|`(`ln')=>`(["calls","at"])
|`(`lo')=>`(["kind","number","given","listed"])
|`(`lp')=>`([("x",3)])
|`(`lq')=>`([("x",5)])
|`(`lr')=>`([V.ref a])
|`(`ls')=>`([nV n,nV L,nV 1,v,.ref fm,.ref fA])
|`(`lt')=>`(((fun x y:Nat=>x != 0&&y==0) x y))
|`(`lu')=>`((BN (P:=P) (w:=w) SM.fn T.toTxt1))
|`(`lv')=>`((List.toArray [.ref l1,.int 0 0]))
|`(`lw')=>`((Obj.isFreed_of_fields (l0 hd _)))
|`(`lx')=>`((by have:=mem_range'1.mp h;omega))
|`(`ly')=>`((by rw[cE];exact hr.trans (cE _)))
|`(`lz')=>`((by unfold Ig;rw[jz,hf];exact aI))
|`(`lA')=>`((fun e' QJ=>CX outer H s E e' QJ))
|`(`lB')=>`((kL fun l=>.matchings l l.length))
|`(`lC')=>`(#[h1,h2])
|`(`lD')=>`(#[rfl,(aP h).symm])
|`(`lE')=>`(#[rfl,rfl,rfl,rfl])
|`(`lF')=>`((((gG ..).extBut.push _).push _))
|`(`lG')=>`((.dT (iV i5 0 (cP names z c).1)))
|`(`lH')=>`((.lst ((cP names z c).2.map nV)))
|`(`lI')=>`((.lst (dn.map nV)))
local macro_rules
|`(`lJ')=>`((.ref D))
|`(`lK')=>`((BM nd fun x hx=>(h x hx).2.2 z))
|`(`lL')=>`((L - (x+1)))
|`(`lM')=>`((aM.new hl))
|`(`lN')=>`((ao (show i<as.length by omega)))
|`(`lO')=>`((bO H' b (.tup [nV 1,nV (t+1)])))
|`(`lP')=>`((by decide:2<=420))
|`(`lQ')=>`((by rw[uk,ea];rfl))
|`(`lR')=>`((by simpa using e))
|`(`lS')=>`((fun b o _ _ hc e _=>k b o hc e))
|`(`lT')=>`((range' x (L - x)))
|`(`lU')=>`((xZ ly (xZ wy H')))
|`(`lV')=>`(["kind","place","node","number"])
|`(`lW')=>`(["place","used","masks","n","x"])
|`(`lX')=>`([nV x,V.int ((b:Int) - (x:Int))])
|`(`lY')=>`((.BoolOp .And (a::b::rest) pos))
|`(`lZ')=>`((.groups n k))
|`(`l0')=>`((.tup [nV v]))
|`(`l1')=>`((RR.tl f z.1))
|`(`l2')=>`((SqL X.K H p ys\/iX X.K H p ys))
|`(`l3')=>`((aw st))
|`(`l4')=>`((by rw[ao hj];exact dH some ej))
|`(`l5')=>`((cM.filter _))
|`(`l6')=>`((db aB))
|`(`l7')=>`((dw ho hd (x:=.int i 0) rfl ?_))
|`(`l8')=>`((dw hz rfl (x:=.ref TO) rfl ?_))
|`(`l9')=>`((fX mv L s n))
|`(`ma')=>`((fun _ QJ=>CX outer H s E e QJ))
|`(`mb')=>`((fun b o hc e=>#[o,k b o hc e]))
|`(`mc')=>`((fun x=>RR.num L n (RR.tl g x)))
|`(`md')=>`((g0 (mv i) L))
|`(`me')=>`((gA K "Call"))
|`(`mf')=>`((not_le.mp e))
|`(`mg')=>`((step.take i))
|`(`mh')=>`((xs.length+1))
|`(`mi')=>`(#[El,Gb,mb,Rc,Wj])
|`(`mj')=>`(#[_,a7 _ rfl,rfl])
|`(`mk')=>`(#[_,rfl,fun x dx hx Wz lH=>?_])
|`(`ml')=>`(#[ax _,hd σ H p])
|`(`mm')=>`(#[b,_,rfl,aq,rfl])
local macro_rules
|`(`mn')=>`(#[fun z=>z.symm,fun z=>z.symm])
|`(`mo')=>`(#[n0,n1,n2,n3,rfl,(aP h).symm])
|`(`mp')=>`(#[yf,Ga,ma,MG,Wo])
|`(`mq')=>`(((a:Int)=(b:Int)))
|`(`mr')=>`((.BoolOp .Or (a::b::rest) pos))
|`(`ms')=>`((.Dict [] [] pos))
|`(`mt')=>`((I1.hok.fresh Ew))
|`(`mu')=>`((bb (da (cJ Dm (pv 0) aC) aC)))
|`(`mv')=>`((by rw[b6];omega))
|`(`mw')=>`((by rw[bn];omega))
|`(`mx')=>`((cJ gx (pv 2) aC))
|`(`my')=>`((fun b ly=>k4 (xZ q0 H') b ly))
|`(`mz')=>`((h1.extBut hs₁.extBut D.i1z))
|`(`mA')=>`((hr pos pins s1 σ H1 _ I1 q1))
|`(`mB')=>`((if en x.2=true then 1 else 0))
|`(`mC')=>`((if g=f then some u else mA g))
|`(`mD')=>`((q.any fun p=>cR b i p (x::r)))
|`(`mE')=>`((rC.extBut hs₁.extBut D.l1z))
|`(`mF')=>`((sC Ga Gb mb i m))
|`(`mG')=>`([.ref st,nV L,.ref nm,.ref nd])
|`(`mH')=>`(#[s.trans s4,ys,s4 _ _ yd,?_])
|`(`mI')=>`(#[x::xs,H2,I2,.cons r1 r2,q2])
|`(`mJ')=>`((.ref sl))
|`(`mK')=>`((.tup []))
|`(`mL')=>`((G.map fun ly=>ly.map (Li M)))
|`(`mM')=>`((I.tok _))
|`(`mN')=>`((bO H p (.tup (ou xs lo hi))))
|`(`mO')=>`((by rw[nF hi] at pz;exact pz))
|`(`mP')=>`((cx G rt))
|`(`mQ')=>`((dw ho hd (x:=.ref t) rfl ?_))
|`(`mR')=>`((fun y hy H4 NX s4 sk tk=>?_))
|`(`mS')=>`((fun y hy H5 NX s5 sk tk=>?_))
|`(`mT')=>`((gy z xb))
|`(`mU')=>`((jM (by rw[hok.la];exact yc)))
|`(`mV')=>`((jM (by rw[hok.lb];exact yb)))
|`(`mW')=>`(["a","p"])
|`(`mX')=>`(["calls"])
|`(`mY')=>`(#[-3,[]])
|`(`mZ')=>`(#[FnAt.same s a,Zb H H' s b])
|`(`m0')=>`(#[b',.ref p,rfl,aq,p,rfl,?_])
local macro_rules
|`(`m1')=>`(#[t,rfl])
|`(`m2')=>`(#[xs,q,ax _])
|`(`m3')=>`((.BoolOp .And (b::rest) pos))
|`(`m4')=>`((.alike a b))
|`(`m5')=>`((.builtin "sum"))
|`(`m6')=>`((.dT []))
|`(`m7')=>`((.int 4611686018427387904 t))
|`(`m8')=>`((.lst [.ref el]))
|`(`m9')=>`((.lst [.ref w0]))
|`(`na')=>`((.words n k))
|`(`nb')=>`((.zigzags n))
|`(`nc')=>`((Ei (P:=P) (w:=w) S.fn KC T))
|`(`nd')=>`((Gi yO aC))
|`(`ne')=>`((HO.lst ((z.2++[_]).map nV)))
|`(`nf')=>`((I.1 _ _ ha))
|`(`ng')=>`((List.toArray [vl,vu,.none]))
|`(`nh')=>`((Or.inl g))
|`(`ni')=>`((Or.inl h))
|`(`nj')=>`((TP X pins σ Q))
|`(`nk')=>`((bO H p (.lst (xs.set j v))))
|`(`nl')=>`((bO H x o))
|`(`nm')=>`((binaryOp .Mult))
|`(`nn')=>`((by unfold cH;rw[aR,hn];rfl))
|`(`no')=>`((c.getD x 0))
|`(`np')=>`((fun _ _ _=>rfl))
|`(`nq')=>`((fun _ _=>False))
|`(`nr')=>`((fun _ q=>q))
|`(`ns')=>`((fun x hx=>#[S.par x hx,?_]))
|`(`nt')=>`((hC _ I.kIn))
|`(`nu')=>`((i+r.length))
|`(`nv')=>`((l.filter p))
|`(`nw')=>`((l.length+1 - 1))
|`(`nx')=>`((ml kvs k v))
|`(`ny')=>`((r.length+1))
|`(`nz')=>`((r.length=b.len))
|`(`nA')=>`((s.getD 1 0))
|`(`nB')=>`((tl f x))
|`(`nC')=>`((tl f z.1))
|`(`nD')=>`((x != 0&&y != 0))
|`(`nE')=>`(["counts"])
local macro_rules
|`(`nF')=>`(#[#[o,e,ex.1],fun a e2=>?_])
|`(`nG')=>`(#[dd.typeIs,fun b q=>?_,hd])
|`(`nH')=>`((.BoolOp .Or (b::rest) pos))
|`(`nI')=>`((.type "method_descriptor"))
|`(`nJ')=>`((by rw[<-l];exact qb.val k))
|`(`nK')=>`((by rw[aR,ao hx,cQ hx];rfl))
|`(`nL')=>`((fun b o hb q=>eb b o hb q))
|`(`nM')=>`((fun s'=>typeIs_int s' k t))
|`(`nN')=>`((fun v H'=>v= .ref f/\H'=H))
|`(`nO')=>`((qz en (kY mv L n i sts).2))
|`(`nP')=>`((show k<ts.length by omega))
|`(`nQ')=>`(["number","given","listed"])
|`(`nR')=>`([iz Ga ma row,iz Gb mb row])
|`(`nS')=>`((i - Ga.length))
|`(`nT')=>`([.int 0,.int 1])
|`(`nU')=>`((bZ (dvs:=[]) (ds:=[]) (CX:=dj) (E:=E0)))
|`(`nV')=>`((bz (r:=ic K) bi))
|`(`nW')=>`((bz (r:=mi K) ee))
|`(`nX')=>`((bQ (v:=.int 0)))
|`(`nY')=>`((gp (CX:=dj) (E:=E0)))
|`(`nZ')=>`((qr (dvs:=[]) (ds:=[]) (CX:=dj) (E:=E0)))
|`(`n0')=>`((bZ (E:=E0)))
|`(`n1')=>`((bP (i:=2)))
|`(`n2')=>`((bP (i:=3)))
|`(`n3')=>`((bQ (v:=.ref fA)))
|`(`n4')=>`((C3 (dvs:=[]) (ds:=[]) (CX:=dj) (E:=E0)))
|`(`n5')=>`((jN (own:=[("x",1),("child",2)]) (g:=Og K 2 (vN (ss 1) (vN (ss 2) Pc)))))
|`(`n6')=>`((bQ (v:=.int (-1))))
|`(`n7')=>`((bP (i:=5)))
|`(`n8')=>`((fD (fvs:=[])))
|`(`n9')=>`((bP (i:=4)))
|`(`oa')=>`((iB (r:=HB K) nJ))
|`(`ob')=>`((bQ (v:=.int (-2))))
|`(`oc')=>`((jN (own:=`lp')))
|`(`od')=>`((bP (i:=6)))
|`(`oe')=>`((bZ (ds:=[]) (E:=E0)))
|`(`of')=>`((cJ (r:=sQ K) wc))
|`(`og')=>`((wpAny_isInstance (T:="StopIteration") (b:=true)))
|`(`oh')=>`((bQ (v:=.int (-3))))
|`(`oi')=>`((jN (own:=[("child",7)])))
local macro_rules
|`(`oj')=>`((fD (fvs:=[nV n])))
|`(`ok')=>`((rh (i:=4) (own:=`lq')))
|`(`ol')=>`((iB (r:=Fa K) Be))
|`(`om')=>`((jN (own:=`lq')))
|`(`on')=>`((bQ (v:=.int 4611686018427387904)))
|`(`oo')=>`((bP (i:=1)))
local macro_rules
|`(tactic|show 1)=>`(tactic|(obtain⟨doc,pm,cdv,ct,rfl⟩:=lW))
|`(tactic|show 2)=>`(tactic|(intro X hP hw hK hc i pins s σ H E I hf st hg;subst hP hw hK))
|`(tactic|show 3)=>`(tactic|(intro pins s σ H Q I h))
|`(tactic|show 4)=>`(tactic|(obtain⟨ra,rb,ka,kb,rfl,ED,GE,Bg,hsz,lF,hT,Bi,iY⟩:=h;obtain⟨td,gu⟩:=X5.dead;obtain⟨yf,Ga,ma,hA,Wo⟩:=id ED;obtain⟨El,Gb,mb,hB,Wj⟩:=id GE;obtain⟨dx,la,wa,oA,qB,h1,_⟩:=id hA;obtain⟨Bm,UU,Wm,qL,xQ,xT,_⟩:=id hB))
|`(tactic|show 5)=>`(tactic|(obtain⟨f0,f1,f2,f3,f4,f5⟩:=hf it `S'))
|`(tactic|show 6)=>`(tactic|(obtain⟨xs,e⟩:=hi.allInts.items;have hn:numsOf (intItems xs).toList=ns:=by rw[<-e];exact hi.numsOf))
|`(tactic|show 7)=>`(tactic|(obtain⟨pm,cdv,ct,rfl⟩:=qK))
|`(tactic|show 8)=>`(tactic|(have MF:=cw.but hT lF u7 Bi;have BF:=u7;have x1:=BF _ _ h1 (by obtain⟨ps,z,_⟩:=lF;exact eD h1 z `XL);have Jl:=BF _ _ xT (by obtain⟨ps,z,_⟩:=lF;exact eD xT z `XL);have MG:=hA.but lF BF;have Rc:=hB.but lF BF;refine `cG'))
|`(tactic|show 9)=>`(tactic|(have e:=af e;have e:=e;refine#[by show 1<=sizeLine;decide,fun l hl=>(q.no sv hR (a:=#[-1,[]]) ?_).lst `M' `af' l hl]))
|`(tactic|show 10)=>`(tactic|(refine xE ?_;have I0:cB `aF' [] (replicate ps.length none++`Z') H {s with heap:=pushCells `aB' scope.names}:=AG S hr.hd e0 hc;refine Ap S.nd _ (fun n v u=>rfl) ps us vs 0 _ _ _ I0 r hl.symm (fun j x hj=>?_) `ns' fun s1 I1=>?_))
|`(tactic|show 11)=>`(tactic|(obtain⟨h1,_⟩:=dg h;refine `dp'))
|`(tactic|show 12)=>`(tactic|(have kb:cn T H H2:=cn.trans u7 Em;have lI:=FnAt.but sK lF Em))
|`(tactic|show 13)=>`(tactic|(intro pins s σ H D I h))
|`(tactic|show 14)=>`(tactic|(obtain⟨dx,la,wa,oA,qB,h1,h2,h3,h4,h5,h6⟩:=id ED;obtain⟨Bm,UU,Wm,qL,xQ,xT,Uv,h3',h4',h5',h6'⟩:=id GE))
|`(tactic|show 15)=>`(tactic|(subst e;have ht:v=nV t:=ht;subst ht))
|`(tactic|show 16)=>`(tactic|(show wpAny _ _ (if `e7'=true then _ else _) _ _ s;rw[au (show ¬(`e7'=true) from c8)];refine ah `cS';refine ah (kj MN XC ?_);rw[au (by rw[hsz];simp)];refine ah `cS';refine ah (wpAny_dictEpoch MN XC ?_)))
|`(tactic|show 17)=>`(tactic|(obtain⟨ps,z1,z2,z3⟩:=sv p hp;refine#[ps,Ji _ _ z1 (eD z1 px `XL),z2,fun q hq cv e=>?_];obtain⟨c,y1,oc,uc,vs,tt,y2,y3⟩:=z3 q hq cv e;exact#[c,y1,oc,uc,vs,tt,Ji _ _ y2 (eD y2 px `XL),y3]))
|`(tactic|show 18)=>`(tactic|(intro pins s σ H x y v u Q I rx ry h))
|`(tactic|show 19)=>`(tactic|(exact#[by show 1<=sizeLine;decide,fun l hl=>q.lst `M' `af' l hl]))
|`(tactic|show 20)=>`(tactic|(intro pins s σ H xs us Q I r h))
|`(tactic|show 21)=>`(tactic|(obtain⟨y,hy,e⟩:=aV.mp hm))
|`(tactic|show 22)=>`(tactic|(rw[show `K' (ka.len:Int) (kb.len:Int)=decide `iC' from lD] at e))
|`(tactic|show 23)=>`(tactic|(exact#[by show 1<=sizeLine;decide,fun l hl=>(q.no sv hR (a:=`mY') `lQ').lst `M' `af' l hl]))
|`(tactic|show 24)=>`(tactic|(have z2:=z;obtain⟨A,h1,h2⟩:=vF ds _ hall p fun d hd=>aU (uS hd) z2;have k:∀b∈A,b∈a::A:=fun b hb=>aK _ hb;refine#[a::A,aI ..,fun b hb=>?_];rcases bh.mp hb with e|m))
|`(tactic|show 25)=>`(tactic|(rw[hl,eU] at Jd;refine `iR';have s5:aM H' `cK':=aM.put s4 (s4.free hl);have US:=s5 _ _ sw;have Q6:=s5 _ _ wn;have QQ:`cK' l=some (.tup ((i5 `c2').map kV)):=by rw[aq,rF]))
|`(tactic|show 26)=>`(tactic|(obtain⟨sk,tk⟩:=I'.tools hR.d hD `kl' hx;refine t i jB _ T _ (sH.trans sT) ?_ sk tk))
|`(tactic|show 27)=>`(tactic|(refine#[_,rfl,n,7,rfl,rfl,_,rfl,az `ac' fun e1=>?_];have h1:n<=7:=by have:=aj e1;omega))
|`(tactic|show 28)=>`(tactic|(refine q H' D s' hD `cV'))
|`(tactic|show 29)=>`(tactic|(unfold pyNext;refine ah `fb';show wpAny _ _ (field `eD' 2 >>= _) _ _ _;refine ah `df';show wpAny _ _ (field `eD' 3 >>= _) _ _ _;refine ah `dO';refine ah `k2'))
|`(tactic|show 30)=>`(tactic|(refine W.item i s _ _ hg st fun v h' tk hv Bh kk=>?_;obtain⟨t,rfl⟩:=hv;have I1:cB X pins σ H {s with heap:=h',toks:=tk}:=I.turned `ie' f0 f1 f3 f4 f5))
|`(tactic|show 31)=>`(tactic|(refine iH `aZ' fun v s1 ⟨x,H1,I1,r1,q1⟩=>?_;refine iH (hb pins s1 σ H1 _ I1 q1) fun u s2 ⟨y,H2,I2,r2,q2⟩=>?_;exact hf v u s2 x y H2 I2 r1 r2 q2))
|`(tactic|show 32)=>`(tactic|(have I1:=I.turned (t':=s.toks) `dg' f0 f1 f3 f4 f5;obtain⟨o,e,c,d⟩:=id Bh))
|`(tactic|show 33)=>`(tactic|(unfold Wqarao.step;show(if _ then _ else _:Wqarao.Result).2.nums.length<=420))
|`(tactic|show 34)=>`(tactic|(refine#[_,rfl,_,rfl,_,rfl,_,_,rfl,rfl,yN `mt,_,_,rfl,rfl,by show 2<=sizeLine;decide,fun b hb=>tk e _ _ `fP' #[b,_,rfl,aq,?_]];exact dH V.int IG))
|`(tactic|show 35)=>`(tactic|(intro pins s σ H R I h;refine iH (hl pins s σ H _ I h) fun v s1 ⟨x,H1,I1,r1,q1⟩=>?_;obtain⟨a,e,⟨xs,hq⟩,q⟩:=q1;subst e;cases r1))
|`(tactic|show 36)=>`(tactic|(obtain⟨j,h1,h2,h3,h4,h5⟩:=Jy he;obtain⟨w,ew,GJ⟩:=r.get h2;have hl:=r.length;have hn:=DH;have oH:EP X pins σ Q w s:=#[z,H,I,GJ,q]))
|`(tactic|show 37)=>`(tactic|(refine ah (dw hz rfl (x:=.none) rfl `cS');simp only[oI];refine ah (lX ?_);refine ah `l8';refine ah (iM hz `S' fun h₁ hz₁ hs₁=>?_)))
|`(tactic|show 38)=>`(tactic|(obtain⟨ps,hP,Jh,hall⟩:=h.1;have oi:=Fd I kI;have W5:=I.hok P _ hP;obtain⟨hb,hgP⟩:=I.bltAt hP hB;have hg:=I.mod.glob.keeps I.bk))
|`(tactic|show 39)=>`(tactic|(rw[show `aE' (mx:Int) `bs'=decide `eU' from sW] at e2;have e2:=aj e2;have h2:∀m∈aW,m<2^aW.length:=fun m hm=>by have:=QY m hm;omega))
|`(tactic|show 40)=>`(tactic|(refine#[_,rfl,n,20,rfl,rfl,_,rfl,az `LT fun e1=>#[_,rfl,k,20,rfl,rfl,_,rfl,az `ac' fun e2=>?_]];have h1:n<=20:=by have:=aj e1;omega))
local macro_rules
|`(tactic|show 41)=>`(tactic|(intro pins s σ H x y v u Q I r1 r2 h;obtain⟨i,j,e1,e2,q⟩:=h;subst e1;subst e2;obtain⟨t,rfl⟩:=r1;obtain⟨t',rfl⟩:=r2))
|`(tactic|show 42)=>`(tactic|(obtain⟨hp,g,d,tk,os⟩:=s;obtain⟨hl,h⟩:=h))
|`(tactic|show 43)=>`(tactic|(obtain⟨z,its,n,r,hl,e⟩:=I.lstM hH))
|`(tactic|show 44)=>`(tactic|(rw[show `K' _ (0:Int)=decide `fn' from lD] at e))
|`(tactic|show 45)=>`(tactic|(obtain⟨p,r,rfl,ia,ib⟩:=hi;unfold Kind.step at h;rw[ln,jX] at h))
|`(tactic|show 46)=>`(tactic|(obtain⟨⟨fo,u,hf,hfd⟩,c,oc,vs',t,uc,xr,ye,MZ,hq⟩:=lI _ _ _ _ BE;have Ut:=(e0.hok f _ hf).1;have hco:=(e0.hok c _ ye).1))
|`(tactic|show 47)=>`(tactic|(show wpAny _ _ (field `ea' 0 >>= _) _ _ s;refine ah `mQ';rw[au `hm'];refine ah `l7';refine ah (fh hol Uj ?_);simp only[bL,hx]))
|`(tactic|show 48)=>`(tactic|(obtain⟨s,ys,h,q⟩:=tU I;exact hd H ys s h q))
|`(tactic|show 49)=>`(tactic|(obtain⟨t,rfl⟩:=r))
|`(tactic|show 50)=>`(tactic|(have e:=af e;exact#[by show 1<=sizeLine;decide,fun l hl=>(q.no sv hR (a:=#[-2,[]]) (by rw[uk,aD e];rfl)).lst `M' `af' l hl]))
|`(tactic|show 51)=>`(tactic|(obtain⟨its,rv,p,hz⟩:=I.list hq;obtain⟨u,hu,ru⟩:=rv.get hx))
|`(tactic|show 52)=>`(tactic|(rw[show `aE' (mx:Int) `bs'=decide `eU' from sW] at e;have e:=af e))
|`(tactic|show 53)=>`(tactic|(have e:b=it:=by simpa using hb))
|`(tactic|show 54)=>`(tactic|(have sT:aM H (bO H T `aj'):=aM.new hT;obtain⟨sH,ys,S7,hp⟩:=I))
|`(tactic|show 55)=>`(tactic|(refine `cX';rw[ae];refine#[_,rfl,aW.length,7,rfl,rfl,_,rfl,az `bK' fun e1=>?_];have h1:aW.length<=7:=by have:=aj e1;omega))
|`(tactic|show 56)=>`(tactic|(show wpAny _ _ (tupleItemsOf `h2' >>= _) _ _ s;refine ah (tupleItemsOf_ ht ?_);refine ah (wpAny_typeOf MF ?_);rw[aD `KK]))
|`(tactic|show 57)=>`(tactic|(refine `cm';exact#[by show 1<=sizeLine;decide,fun l hl=>(q.no sv hR (a:=`mY') (by rw[uk,ea,eb];rfl)).lst `M' `af' l hl]))
|`(tactic|show 58)=>`(tactic|(rw[hq] at q;exact#[_,rfl,_,rfl,az (fun _=>#[by show 1<=sizeLine;decide,fun l hl=>q.lst s1 `af' l hl]) fun z=>nomatch z]))
|`(tactic|show 59)=>`(tactic|(intro pins s σ H R I h;refine Call_ (mT I hg hm boot_enumerate (b7 `V' hs rfl));obtain⟨a,xs,ex,hq,q⟩:=q1;subst ex))
|`(tactic|show 60)=>`(tactic|(rw[show `K' _ _=decide (x≠i) from lD] at e))
|`(tactic|show 61)=>`(tactic|(intro qg xq pins s σ H x y v u Q I rx ry h hs;obtain⟨p,xs,i,z,rfl,rfl,hq,he,q⟩:=h;cases rx;obtain⟨t,rfl⟩:=ry))
|`(tactic|show 62)=>`(tactic|(refine#[w1,fun a=>?_];obtain⟨cN,gi,rest,x,ec,Nd,hx,hb⟩:=w2 a;obtain⟨q1,rfl⟩:=qC ec;obtain⟨rfl,rfl⟩:=qC q1))
|`(tactic|show 63)=>`(tactic|(obtain⟨as,h1,h2⟩:=x;have hl:=bH h2;rw[ae] at hl;obtain⟨ly,e,bs,e2,e3⟩:=fE h2 `lN';rw[aR,ao hi] at e;cases e))
|`(tactic|show 64)=>`(tactic|(rw[aR] at hi;obtain⟨x,hx,rfl⟩:=fw.mp hi))
|`(tactic|show 65)=>`(tactic|(unfold pyNext;refine ah `jD';show wpAny _ _ (field `eD' 2 >>= _) _ _ _;refine ah `df';refine ah `dO';refine ah `k2'))
|`(tactic|show 66)=>`(tactic|(refine .inr #[`e0',Pv (i+1),fun H' p'=>`cB',fun x H' y=>?_];obtain⟨e,y⟩:=y;subst e;exact hs i x _ (y xs q) p))
|`(tactic|show 67)=>`(tactic|(refine `bT';refine `bI';have MQ:=s1.trans s2;have X9:=qw.same #[as1,UW,CP] s2;have QF:qw H2 rt M Gb:=#[XA,UH,Ey]))
|`(tactic|show 68)=>`(tactic|(have big:1000<sizeLine:=by decide))
|`(tactic|show 69)=>`(tactic|(refine .inr #[jB,Pv (i+1),fun σ' H' p'=>`dN',fun x H' y=>?_];obtain⟨e,y⟩:=y;subst e y;exact hs i σ _ jB p))
|`(tactic|show 70)=>`(tactic|(refine#[rfl,_,rfl,_,rfl,sb,_,1,nV la,rfl,rfl,iX.of (s4 _ _ (s3 _ _ hs)),rfl,_,_,rfl,rfl,_,rfl,az `A' fun e=>?_]))
|`(tactic|show 71)=>`(tactic|(cases rx;obtain⟨its,r,ht,hz⟩:=I.tuple hx;have fY:its.toArray.size=xs.length:=by rw[bn];exact r.length.symm))
|`(tactic|show 72)=>`(tactic|(rcases yE.cases a with⟨ea,va⟩| ⟨ra,ka,ea,va,hA,ca⟩))
|`(tactic|show 73)=>`(tactic|(refine ny `fa' fun h=>?_))
|`(tactic|show 74)=>`(tactic|(obtain⟨ra,rb,ka,kb,rfl,_⟩:=h))
|`(tactic|show 75)=>`(tactic|(exact sk e _ `M'))
|`(tactic|show 76)=>`(tactic|(have hT:s.TypeIs `eD' "zip":=#[_,hz,rfl]))
|`(tactic|show 77)=>`(tactic|(obtain⟨o',e1⟩:=I.base.there b o e hx))
|`(tactic|show 78)=>`(tactic|(obtain⟨ps,z,_⟩:=hT;exact eD ha z `XL))
|`(tactic|show 79)=>`(tactic|(rw[show rT f v ((k,x)::r)=`ee' from rfl];by_cases hk:k=f))
|`(tactic|show 80)=>`(tactic|(have hx:x<2:=hx;have:x=0\/x=1:=by omega))
local macro_rules
|`(tactic|show 81)=>`(tactic|(have:=dg e;cases this.2))
|`(tactic|show 82)=>`(tactic|(intro pins s σ H vs us Q I r h))
|`(tactic|show 83)=>`(tactic|(refine#[_,rfl,(t:Int),5,rfl,rfl,_,rfl,az `A' fun e=>?_]))
|`(tactic|show 84)=>`(tactic|(refine#[_,rfl,_,rfl,_,_,rfl,rfl,_,rfl,az `A' fun e=>?_]))
|`(tactic|show 85)=>`(tactic|(subst ex;obtain rfl:=rx))
|`(tactic|show 86)=>`(tactic|(rintro i y σ H' hi ⟨v,v2,rfl,s2,sw,wn⟩;obtain⟨c0,Jp,rfl⟩:=wT hi;obtain⟨c,tN,ye⟩:=fE hT Jp))
|`(tactic|show 87)=>`(tactic|(have h:=aO.mp h;have h':=aO.mp h.1;have h1:=aL.mp h'.1))
|`(tactic|show 88)=>`(tactic|(intro pins s σ H x v vl vu lo hi sl Q I rx hs pl pu h))
|`(tactic|show 89)=>`(tactic|(obtain⟨its,r',pl,hz⟩:=I.list hq;have fY:=r'.length))
|`(tactic|show 90)=>`(tactic|(have q:=q H `M';refine#[_,rfl,b,_,0,nV x,rfl,rfl,iX.of hb,bx rfl,_,_,rfl,rfl,_,rfl,az `A' fun e=>?_]))
|`(tactic|show 91)=>`(tactic|(obtain⟨y,hy,ey⟩:=aV.mp hm;cases ey))
|`(tactic|show 92)=>`(tactic|(rw[(iK `eh' _ _ _).1 hm,cE] at hv;cases hv;exact oH _ _ XT US (by rw[jZ hm];exact Q6) (by rw[jZ hm])))
|`(tactic|show 93)=>`(tactic|(have s3:aM H (bO H' T' `eM'):=s2.trans (aM.new hT);refine `hD';generalize bO H' T' `eM'=H3 at s3⊢))
|`(tactic|show 94)=>`(tactic|(rcases hx with rfl|rfl<;>rcases hy with rfl|rfl<;>rfl))
|`(tactic|show 95)=>`(tactic|(rintro i m σ H ⟨rfl,hi,p⟩))
|`(tactic|show 96)=>`(tactic|(rintro j x H4 hj ⟨s4,Jd⟩;obtain⟨n,hn,rfl⟩:=OR hj;have KO:=(hc c QO).2 n (aQ hn);refine `cL'))
|`(tactic|show 97)=>`(tactic|(have:=Di vs [] `Z';rw[iq,iq,ja,hl] at this;rw[this];unfold start;have:=hc.len;rw[bj,aE,cI,hl,this]))
|`(tactic|show 98)=>`(tactic|(refine(jH (h₀:=by rw[ae];exact hi) (h₁:=by rw[ae];exact hj) nd).mp ?_;rw[gL,gL,ei,ej];exact e))
|`(tactic|show 99)=>`(tactic|(refine#[TT,_,rfl,iX.of Bi,rfl,_,_,rfl,_,_,rfl,rfl,rfl,_,rfl,_,_,rfl,rfl,_,rfl,az `A' fun e=>?_]))
|`(tactic|show 100)=>`(tactic|(rintro σ H' ⟨v,v2,rfl,s2,sw,wn⟩;have hl:(as.map V.ref).length=step.length:=by rw[ae,bH hT]))
|`(tactic|show 101)=>`(tactic|(have e':b=e\/b=it:=by simpa using hb))
|`(tactic|show 102)=>`(tactic|(obtain⟨_,m,e2,e3⟩:=jJ names `Y' (put `bk' ks,[0]);have e2:(qJ M names ks `Y').2=[0]++m:=e2))
|`(tactic|show 103)=>`(tactic|(subst hk;refine c7.mpr fun z=>?_;obtain⟨z1,z2⟩:=(qM l).mp z;rcases h with h| ⟨m,hm,h⟩))
|`(tactic|show 104)=>`(tactic|(exact ge `i7' (fun _ _ _ _ ⟨v,t,e,ht,_,_,q⟩=>#[t,by rw[e,show v=nV t from ht],q _ `M'])))
|`(tactic|show 105)=>`(tactic|(have hb:(2:Nat)^62=4611686018427387904:=by decide))
|`(tactic|show 106)=>`(tactic|(obtain⟨T,x,rfl,hT,rfl,Bf⟩:=y;have Bf:=Bf _ hs))
|`(tactic|show 107)=>`(tactic|(rintro H4 ⟨s4,Jd⟩;have hl:(c.map nV).length=(cH names c).length:=by unfold cH;rw[ae,ae]))
|`(tactic|show 108)=>`(tactic|(refine ah (wpAny_fieldsOf ho hd ?_);have aa0:ownsTuple "dict_keyiterator"=false:=by decide))
|`(tactic|show 109)=>`(tactic|(intro pins s σ H R I h;refine Call_ (mT I hg hm boot_range (b7 `V' (by rw[hs,Jo]) `j3'))))
|`(tactic|show 110)=>`(tactic|(cases rx;cases ry;obtain⟨its,r1,p1,_⟩:=I.tuple ha;obtain⟨Bn,r2,p2,_⟩:=I.tuple hb))
|`(tactic|show 111)=>`(tactic|(obtain⟨h1,e1⟩:=bd.mp a;obtain⟨h2,e2⟩:=bd.mp b;exact(jH hN).mp (e1.trans e2.symm)))
|`(tactic|show 112)=>`(tactic|(rw[show `E' (y.2.1:Int) (p.getD i 0:Int)=decide (y.2.1=p.getD i 0) from b5.mpr `F'] at e))
|`(tactic|show 113)=>`(tactic|(simp only[sliceBounds,HT.sIx,Option.getD_none,show(1:Int)>0 by decide,oI];by_cases h:i<0))
|`(tactic|show 114)=>`(tactic|(rcases bh.mp hy with rfl|hy))
|`(tactic|show 115)=>`(tactic|(obtain⟨⟨rq,he⟩,qf,lH⟩:=st))
|`(tactic|show 116)=>`(tactic|(refine `jZ';have kI:∀l,H l=Option.none->l≠nd:=fun l e z=>by rw[z,hD] at e;cases e))
|`(tactic|show 117)=>`(tactic|(refine kdl_call (JD hd hc ui) hh ho (by rw[hsz];exact z) fun h' tk EB c' hk hD wo=>?_))
|`(tactic|show 118)=>`(tactic|(have s1:aM H (bO H p `aU'):=aM.new hp;have CP:bO H p `aU' p=some `eo':=by rw[aq,Qk]))
|`(tactic|show 119)=>`(tactic|(obtain⟨i,hi,rfl⟩:=cg.mp hb;obtain⟨c,_,ye⟩:=fE hT (ao hi);exact eD ye hD `XL))
|`(tactic|show 120)=>`(tactic|(obtain⟨m,hn,hl⟩:=I.loc))
local macro_rules
|`(tactic|show 121)=>`(tactic|(refine `dV';rintro i m H ⟨rfl,hi,p⟩;have q:=hl i H hi p;by_cases jB:i<xs.length))
|`(tactic|show 122)=>`(tactic|(obtain⟨sl,e1⟩:=I.base.slot b o e n hb hx))
|`(tactic|show 123)=>`(tactic|(obtain⟨t,rfl⟩:=rx;obtain⟨t',rfl⟩:=ry))
|`(tactic|show 124)=>`(tactic|(apply cu;intro z))
|`(tactic|show 125)=>`(tactic|(by_cases hm:b∈tabs.map (·.2)))
|`(tactic|show 126)=>`(tactic|(obtain⟨j,hj,rfl⟩:=mem_getD ha;rw[ae,cU] at hj;rw[<-numAt_eq];exact h2 j `mt))
|`(tactic|show 127)=>`(tactic|(rw[show `E' ((t.getD x 0:Nat):Int) (n:Int)=decide (t.getD x 0=n) from mN] at e2))
|`(tactic|show 128)=>`(tactic|(rw[show `aJ' (p.length:Int) (ka.len:Int)=decide (ka.len<p.length) from lE] at e))
|`(tactic|show 129)=>`(tactic|(rw[show `cf' ((t.getD i 0:Nat):Int) (n:Int)=decide (t.getD i 0<n) from lE] at e))
|`(tactic|show 130)=>`(tactic|(have hpm:parts.getD i []∈parts:=RR.getD_mem `mt;obtain⟨pz,jB⟩:=hpr _ hpm))
|`(tactic|show 131)=>`(tactic|(rw[ae,be];unfold cH;rw[ae];have:=(hc c QO).1;have:(20:Nat)<sizeLine:=by decide))
|`(tactic|show 132)=>`(tactic|(rw[nU (je hj)] at e2;obtain⟨u',r',q⟩:=hl j y v' e1 e2 e3;refine#[u',r',?_]))
|`(tactic|show 133)=>`(tactic|(exact wpAny_pyNext_range_end `bZ' st (by have:n<=i:=hg;omega) fun h' eb=>`aD'))
|`(tactic|show 134)=>`(tactic|(intro x y hx hy;have hx:x=0\/x=1:=by omega))
|`(tactic|show 135)=>`(tactic|(refine dX (mT I Rm Tr boot_list ?_);refine b7 ?_ `j3' rfl;rw[Jo];refine iR ?_))
|`(tactic|show 136)=>`(tactic|(refine iY H' r G m `d5' `hR' Np ?_ MY `bc'))
|`(tactic|show 137)=>`(tactic|(exact#[_,rfl,tk e _ _ `M' rfl]))
|`(tactic|show 138)=>`(tactic|(obtain⟨i,j,rfl,q⟩:=h;obtain⟨u,w',rfl,⟨t,rfl⟩,⟨t',rfl⟩⟩:=TY r))
|`(tactic|show 139)=>`(tactic|(rw[kU hp] at nh;refine oH H5 D _ (s3.trans s5) nh (kr fun x _=>?_);unfold uI))
|`(tactic|show 140)=>`(tactic|(exact#[as,k _ _ h1 (eD h1 hp `XL),b4 (fun b c e=>k _ _ e (eD e hp `XL)) h2]))
|`(tactic|show 141)=>`(tactic|(subst hk;have hy:=(qM l).mpr `lC';exact md nd hT t hy rfl `b3' `b3' (qs hy)))
|`(tactic|show 142)=>`(tactic|(have GI:=s5 _ _ yd;rw[qv hx,e,aD rfl];exact gH (hR _ _ _ _ _ r GI tk) `gX'))
|`(tactic|show 143)=>`(tactic|(rw[show L2.start `bM' ([.ref b]++[])=[some `i4'] from rfl];have q:=q H `M'))
|`(tactic|show 144)=>`(tactic|(obtain⟨os,KQ,tN,QG⟩:=id hs;have MF:s.TypeIs `mJ' "slice":=#[os,KQ,tN]))
|`(tactic|show 145)=>`(tactic|(rw[show `E' (en:Int) (aW.length:Int)=decide (en=aW.length) from mN] at e1))
|`(tactic|show 146)=>`(tactic|(rw[show `E' (st:Int) (aW.length:Int)=decide (st=aW.length) from mN] at e1))
|`(tactic|show 147)=>`(tactic|(rw[show `aJ' ((t.getD x 0:Nat):Int) 0=decide (0<t.getD x 0) from lE] at e))
|`(tactic|show 148)=>`(tactic|(have nm:(toString "max"++toString ".loop":String)="max.loop":=by decide))
|`(tactic|show 149)=>`(tactic|(have:X.env.scope.names.lookup x=some .free:=hk;rw[k] at this;cases this))
|`(tactic|show 150)=>`(tactic|(intro nd pz;have u1:aM H' `hh':=aM.new pz;have Q0:`hh' nd=some `m6':=aq))
|`(tactic|show 151)=>`(tactic|(intro pins s σ H x vs v us Q I rx rv h))
|`(tactic|show 152)=>`(tactic|(obtain⟨W,T,a,b,d,c⟩:=hf i hi;obtain⟨W',T',a',b',d',c'⟩:=hg i hi))
|`(tactic|show 153)=>`(tactic|(refine `nG';cases q;obtain⟨ob,_,_,h1,h2,_⟩:=dd;exact#[ob,h1,h2.2.1]))
|`(tactic|show 154)=>`(tactic|(refine#[_,rfl,_,rfl,az `A' fun e=>`dt']))
|`(tactic|show 155)=>`(tactic|(by_cases hm:cH names c∈z.1))
|`(tactic|show 156)=>`(tactic|(obtain⟨o,es,ep,ho,r⟩:=hm))
|`(tactic|show 157)=>`(tactic|(refine `av';rcases yE.cases b with⟨eb,vb⟩| ⟨rb,kb,eb,vb,hB,cb⟩))
|`(tactic|show 158)=>`(tactic|(have e':b=s1.heap.objs.size+1\/b=s1.heap.objs.size:=by simpa using hb))
|`(tactic|show 159)=>`(tactic|(obtain⟨y,hy,ey⟩:=aV.mp CQ;cases ey))
|`(tactic|show 160)=>`(tactic|(refine tk rfl _ _ (aM.put sp (sp.free CV)) `m0';rw[aZ (a9 aq CV),aq]))
local macro_rules
|`(tactic|show 161)=>`(tactic|(have e:=aj e;have e:=e))
|`(tactic|show 162)=>`(tactic|(have hsz:es.size=kvs.length:=by rw[bH qb];exact size_of_entries hes))
|`(tactic|show 163)=>`(tactic|(obtain⟨b,as,e1,e2,e3⟩:=AT h3 hi;obtain⟨t,e4,e5⟩:=nL e3 `mO'))
|`(tactic|show 164)=>`(tactic|(obtain⟨z,hd,vs,qb,dd⟩:=Cc I.hok e))
|`(tactic|show 165)=>`(tactic|(refine#[.ref s.heap.objs.size,_,I.laid `eY' (ax _) ?_,rfl,q _ `cj']))
|`(tactic|show 166)=>`(tactic|(rw[<-DS] at this;exact this))
|`(tactic|show 167)=>`(tactic|(rw[aq] at e;cases e))
|`(tactic|show 168)=>`(tactic|(rw[e1] at h;cases h))
|`(tactic|show 169)=>`(tactic|(rw[show WORD^0=1 from rfl] at e;omega))
|`(tactic|show 170)=>`(tactic|(refine on F.entry_max_loop ?_;rw[kQ jI _];refine ah (fh hS rfl ?_)))
|`(tactic|show 171)=>`(tactic|(refine(I.hok b u e).stay `hs' `nr' fun _ _ q=>q;rcases hc with z|z))
|`(tactic|show 172)=>`(tactic|(exact oy (aU (j2 (b:=21) nd fun x hx=>by have:=h x hx;omega) `KK)))
|`(tactic|show 173)=>`(tactic|(have e2:=KX b o e;rw[yF b hm] at e2;cases e2;exact absurd `id' c8))
|`(tactic|show 174)=>`(tactic|(obtain⟨its,r',pl,hz⟩:=I.tuple hq))
|`(tactic|show 175)=>`(tactic|(obtain⟨lC,kvs,h1,h2,h3,h4,h5⟩:=x))
|`(tactic|show 176)=>`(tactic|(have Xy:it<s.heap.objs.size:=by obtain⟨_,q,_⟩:=qf;exact a8 q))
|`(tactic|show 177)=>`(tactic|(have hl:(ml kvs k v).length<=sizeLine:=by have:=xO kvs k v;omega))
|`(tactic|show 178)=>`(tactic|(intro wh pins s σ H Q I h))
|`(tactic|show 179)=>`(tactic|(obtain⟨p,ys,rfl,hq,q⟩:=h;obtain⟨u,rfl,rx⟩:=yX r;cases rx))
|`(tactic|show 180)=>`(tactic|(obtain⟨xs,x,hq,hx⟩:=hg))
|`(tactic|show 181)=>`(tactic|(exact Or.inl h))
|`(tactic|show 182)=>`(tactic|(obtain⟨e,n,ne,nf,d⟩:=I.pin p hp))
|`(tactic|show 183)=>`(tactic|(obtain⟨σ3,H3,I3,n3⟩:=q3;obtain⟨m',hm,w3⟩:=hN σ3 H3 n3))
|`(tactic|show 184)=>`(tactic|(refine .inr #[`e0',Pv (i+1),fun σ' H' p'=>`cB',fun x H' y=>?_]))
|`(tactic|show 185)=>`(tactic|(refine `cH';have hl:=len _ _ _ _ BE))
|`(tactic|show 186)=>`(tactic|(rw[qv hx,e,au `KK,bU];exact gt hR yd (fun b o q _=>s4 _ _ q) hp))
|`(tactic|show 187)=>`(tactic|(rcases e' with z|z))
|`(tactic|show 188)=>`(tactic|(rw[z];exact jD _ _))
|`(tactic|show 189)=>`(tactic|(by_cases e:p.1=k))
|`(tactic|show 190)=>`(tactic|(exact b5.mpr `F'))
|`(tactic|show 191)=>`(tactic|(have h:=aO.mp h;have h1:=aL.mp h.1))
|`(tactic|show 192)=>`(tactic|(obtain⟨_,_,_,_,o,_,_,e,ex,_⟩:=I.hok p _ hk;exact#[o,e,ex]))
|`(tactic|show 193)=>`(tactic|(rw[iE `mt,iE `mt,ay,bc `mt];show true=(decide (x=x)&&il [] r)))
|`(tactic|show 194)=>`(tactic|(exact Heap.Ns.keeps (Heap.Ns.new ..) fun b o e=>j0 _ _ _ _ e))
|`(tactic|show 195)=>`(tactic|(obtain⟨o,ho,hc,hd⟩:=id qf;obtain⟨ol,hol,_,nl,Uj⟩:=hl))
|`(tactic|show 196)=>`(tactic|(have I2:=I1.kept (t':=s1.toks) hk))
|`(tactic|show 197)=>`(tactic|(obtain⟨r1,r2,r3⟩:=hp y `mt XU))
|`(tactic|show 198)=>`(tactic|(obtain⟨t,ht,sw⟩:=u9 A outer s H vs Q E (hr.deeper _) BE))
|`(tactic|show 199)=>`(tactic|(obtain⟨xs,hq,hx⟩:=hg;obtain⟨its,rv,p,hz⟩:=I.list hq))
|`(tactic|show 200)=>`(tactic|(refine#[rfl,_,rfl,_,rfl,_,_,rfl,rfl,_,rfl,az `A' fun e=>?_]))
local macro_rules
|`(tactic|show 201)=>`(tactic|(show(decide (l.length<=7)&&`cE')=true↔_;rw[aX,aX,IW];simp))
|`(tactic|show 202)=>`(tactic|(subst e;exact I1.fpOk (ax _) `gq'))
|`(tactic|show 203)=>`(tactic|(obtain⟨hir,hxe⟩:=bd.mp hx;have wv:i<G.length:=by omega))
|`(tactic|show 204)=>`(tactic|(obtain⟨n,k,rfl,_⟩:=h))
|`(tactic|show 205)=>`(tactic|(obtain⟨w',hw,GJ⟩:=sD.some_of (by rw[l];exact qb.val k)))
|`(tactic|show 206)=>`(tactic|(show `hW'=true;rcases S.par x hx with q|q<;>rw[q]<;>decide))
|`(tactic|show 207)=>`(tactic|(obtain⟨oc,od,kV,doc,pm,an,cdv,ct,osl,rfl,lk,xr⟩:=F.ex))
|`(tactic|show 208)=>`(tactic|(rw[show `E' ((i:Int)%2) 0=decide (i%2=0) from yn 0] at e2))
|`(tactic|show 209)=>`(tactic|(rw[show `E' (st:Int) (x:Int)=decide (st=x) from mN] at e2))
|`(tactic|show 210)=>`(tactic|(rw[show `aE' (x:Int) (i:Int)=decide (i<=x) from IF] at e1))
|`(tactic|show 211)=>`(tactic|(rw[show `aJ' (x:Int) (la:Int)=decide (la<x) from lE] at e))
|`(tactic|show 212)=>`(tactic|(rw[show `cf' (x:Int) (la:Int)=decide (x<la) from lE] at e))
|`(tactic|show 213)=>`(tactic|(rw[vd.2.2.2 r hr]))
|`(tactic|show 214)=>`(tactic|(subst hj;rw[hi] at e1;cases e1;rw[mF hiσ] at e2;cases e2))
|`(tactic|show 215)=>`(tactic|(have Nh:(Sum.inl (u:Int):nB)=Sum.inl (t:Int)↔u=t:=`gF'))
|`(tactic|show 216)=>`(tactic|(rcases g with⟨kvs,k,e,ey,l⟩| ⟨kvs,k,b,e,ey,eb,l⟩))
|`(tactic|show 217)=>`(tactic|(rw[show `E' ((i:Int)%2) 1=decide (i%2=1) from yn 1] at e))
|`(tactic|show 218)=>`(tactic|(subst ey;cases(ry);obtain⟨z,hd,xs,qb,dd⟩:=Fi I.hok e))
|`(tactic|show 219)=>`(tactic|(have h1:=ha.pos;have h2:=hb.pos))
|`(tactic|show 220)=>`(tactic|(obtain⟨_,_,_,q⟩:=hs))
|`(tactic|show 221)=>`(tactic|(rcases bh.mp h with e|h))
|`(tactic|show 222)=>`(tactic|(refine `gg';refine yj aq (aU hL `KK) fun b H3 s3 hb=>?_))
|`(tactic|show 223)=>`(tactic|(refine#[[s+2^x],?_,by rw[G8 h2]];rw[e,au];rintro(z|z|z)))
|`(tactic|show 224)=>`(tactic|(rw[e] at e';cases e';rw[d] at d';injection d' with d1 _))
|`(tactic|show 225)=>`(tactic|(rw[hl,eU] at sw wn;refine `jt';exact k H' q s2 uh sw wn))
|`(tactic|show 226)=>`(tactic|(rw[nums_intItems] at hn))
|`(tactic|show 227)=>`(tactic|(exact q H' D (s3.trans s') (s3.free hD) (nb nh hp rfl)))
|`(tactic|show 228)=>`(tactic|(have e':b=z\/b=TI\/b=TO\/b=i1\/b=i2:=by simpa using hb))
|`(tactic|show 229)=>`(tactic|(have:=bH hp;have:=fc p (l.take i);rw[be] at this;omega))
|`(tactic|show 230)=>`(tactic|(refine TR lk xr S len fun A outer s H vs Q E hr BE=>?_))
|`(tactic|show 231)=>`(tactic|(rw[numAt_eq];exact PySem.getD_mem (by rw[ae,cU];omega)))
|`(tactic|show 232)=>`(tactic|(cases rr;cases r;obtain⟨its,rv,p',hz⟩:=I1.list hq))
|`(tactic|show 233)=>`(tactic|(have e':¬q.1=k:=fun z=>e `kr'))
|`(tactic|show 234)=>`(tactic|(obtain⟨oc,od,kV,doc,pm,an,ct,osl,rfl,lk,xr⟩:=F.ex))
|`(tactic|show 235)=>`(tactic|(rcases iI hv with⟨j,u,rfl,rfl⟩| ⟨y,u,rfl,rfl⟩))
|`(tactic|show 236)=>`(tactic|(rw[e] at q;exact absurd (Value.type.inj (yl q).1) `KK))
|`(tactic|show 237)=>`(tactic|(rw[show `E' _ 1=(aW.getD t 0).testBit x from C7] at e))
set_option hygiene true
def ae:=@List.length_map
def af:=@of_decide_eq_true
def ah:=@PySem.wpAny_bind
abbrev ai:=PySem.W.Frag
def aj:=@of_decide_eq_false
abbrev ak:=PySem.Addr
def ao:=@List.getElem?_eq_getElem
def ap:=@PySem.Heap.get?_push_of_some
def au:=@if_neg
def ax:=@Nat.le_refl
def ay:=@List.getD_eq_getElem?_getD
abbrev aA:=PySem.Value
def aD:=@if_pos
def aE:=@List.length_append
def aF:=@List.length_cons
abbrev aH:=PySem.FuncData
def aI:=@List.mem_cons_self
def aJ:=@PySem.wpAny_pure
def aK:=@List.mem_cons_of_mem
def aL:=@List.mem_range
def aN:=@Nat.zero_le
def aO:=@List.mem_filter
def aP:=@Option.some.inj
def aQ:=@List.mem_of_getElem?
def aR:=@List.getElem?_map
abbrev aS:=PySem.Shared
abbrev aT:=Wqarao.Kind
def aU:=@Nat.le_trans
def aV:=@List.mem_map
def aX:=@Bool.and_eq_true
def a7:=@PySem.Heap.get?_push_size
def a8:=@PySem.Heap.lt_size
def bc:=@List.getElem?_eq_none
def bd:=@List.getElem?_eq_some_iff
def be:=@List.length_take
def bh:=@List.mem_cons
def bj:=@List.map_append
def bn:=@List.size_toArray
def bo:=@List.length_replicate
def bp:=@decide_eq_true
def bu:=@PySem.F.plainAttrs_list
def bv:=@List.length_range
def bw:=@List.map_cons
def bD:=@Nat.lt_of_lt_of_le
def bG:=@Nat.lt_of_le_of_lt
def bH:=@PySem.Paired.length
def bJ:=@PySem.mem_of_lookup
def bK:=@decide_eq_true_eq
def bL:=@Int.toNat_natCast
abbrev bN:=PySem.Program
def bS:=@decide_eq_false
def bU:=@List.append_nil
def bV:=@List.length_eq_zero_iff
def bW:=@PySem.F.type_list_append
def bX:=@PySem.F.slot_list_append
def b3:=@List.mem_append_right
def b5:=@decide_eq_decide
def b6:=@List.length_drop
def b7:=@PyProof.Rows.callWith_type1
def b8:=@PySem.Heap.size_push
def cg:=@List.mem_iff_getElem
def cq:=@List.getElem?_append_left
def cu:=@Decidable.byContradiction
def cy:=@List.lookup_cons
def cz:=@List.length_singleton
def cD:=@PySem.PassesOwn.never
def cE:=@Nat.zero_add
def cF:=@Nat.ne_of_lt
def cI:=@List.append_assoc
def cM:=@List.nodup_range
def cS:=@List.take_of_length_le
def cT:=@List.mem_singleton
def cU:=@Array.length_toList
abbrev cV:=PySem.World
def cW:=@Bool.and_eq_true_iff
def cX:=@PySem.wpAny_callSpecial?_slot
def cY:=@PySem.boot_len
abbrev cZ:=PySem.Heap
def c7:=@Bool.eq_false_iff
def c8:=@Bool.false_ne_true
def dc:=@PySem.Heap.get?_update_other
def de:=@List.range_eq_range'
def df:=@List.getElem?_append_right
abbrev dh:=Wqarao.Row
abbrev du:=PySem.Stmt
def dv:=@PySem.Heap.get?_update_self
def dw:=@PySem.wpAny_field
def dz:=@Nat.lt_irrefl
def dD:=@List.replicate_succ
def dE:=@List.map_congr_left
def dG:=@Bool.true_and
def dH:=@congrArg
def dI:=@List.foldl_cons
def dS:=@Bool.false_and
def dX:=@PySem.wpAny_Call_Name_kw
abbrev dY:=PySem.Around
def dZ:=@PyProof.Rows.slot_tuple_getitem
abbrev eh:=Wqarao.Room
def eo:=@Nat.le_of_lt
def eB:=@List.range_succ
def eC:=@List.length_set
def eE:=@PySem.wpAny_newObj_type
def eI:=@List.mem_append_left
def eJ:=@List.drop_eq_getElem_cons
def eK:=@List.map_map
def eL:=@List.drop_of_length_le
def eN:=@List.mem_append
def eS:=@PySem.wpAny_holding
def eT:=@PySem.wpAny_call_entry
def eU:=@List.take_length
def eV:=@List.idxOf_lt_length_iff
def eX:=@List.getElem?_take_of_lt
def eY:=@List.all_eq_true
def eZ:=@List.getElem?_range
def fc:=@List.length_filter_le
def fh:=@PySem.wpAny_seqItems
def fi:=@Int.natCast_nonneg
def fk:=@List.nodup_cons
def fw:=@Option.map_eq_some_iff
def fx:=@List.drop_length
def fH:=@PySem.wpAny_mono
def fT:=@List.reverse_cons
def fZ:=@List.drop_zero
def gc:=@PySem.F.slot_dict_keyiterator_next
def gh:=@List.getElem?_replicate
def gj:=@List.countP_cons_of_pos
def gk:=@List.countP_cons_of_neg
def gv:=@beq_iff_eq
def gw:=@Nat.testBit_eq_decide_div_mod_eq
def gz:=@beq_eq_false_iff_ne
def gG:=@PySem.Heap.SameBut.update
def gI:=@List.take_append_drop
def gJ:=@Nat.lt_of_not_le
def gL:=@List.getElem_map
def gS:=@Nat.ne_of_gt
def g8:=@PySem.wpAny_typeNameOfWhole_keyiter
def g9:=@Nat.pow_le_pow_right
def hJ:=@Nat.mul_le_mul
def hU:=@Bool.and_false
def ig:=@List.pairwise_singleton
def ip:=@Nat.not_lt_zero
def iq:=@List.nil_append
def ir:=@PySem.F.slot_zip_next
def iw:=@List.getD_cons_zero
def iC:=@Nat.sub_zero
def iD:=@Nat.lt_or_ge
def iE:=@List.drop_eq_nil_of_le
def iJ:=@Nat.lt_succ_self
def iM:=@PySem.wpAny_setField_rec
def iN:=@PySem.wpAny_pyIter_tuple
def iO:=@Nat.eq_zero_or_pos
def iP:=@List.mem_filterMap
def iQ:=@PySem.F.slot_tuple_iterator_next
def iR:=@PySem.Calls.spliced_cons
def i0:=@PySem.F.plain_extend_loop
def i7:=@PySem.wpAny_updateSeq
def i8:=@PySem.wpAny_passesOwn
def i9:=@List.length_zip
def ja:=@List.length_nil
def jb:=@List.find?_cons
def je:=@Ne.symm
def jf:=@Nat.le_of_succ_le
def jg:=@Nat.le_of_eq
def jh:=@Nat.add_comm
def ji:=@Int.ofNat_lt
def jq:=@PySem.wpAny_typeNameOf_keyiter
def jr:=@Option.isSome_iff_exists
abbrev ju:=PySem.Scope
def jw:=@List.map_eq_nil_iff
def jx:=@List.length_reverse
def jy:=@List.getD_cons_succ
def jz:=@List.filterMap_cons
def jC:=@LawfulBEq.eq_of_beq
def jD:=@Nat.le_add_right
def jE:=@List.range'_succ
def jF:=@List.mem_flatMap
def jG:=@List.getElem_mem
def jH:=@List.getElem_inj
def jI:=@PySem.F.plain_max_loop
def jQ:=@Nat.succ_pos
def jR:=@List.length_range'
def jS:=@List.length_pos_of_mem
def jT:=@List.getElem_range
def jU:=@PySem.Calls.callWith_builtin
def j0:=@PySem.pushCells_keeps
def j1:=@PySem.F.slot_dict_setdefault
def j3:=@List.contains_iff_mem
def j4:=@Array.getElem?_toList
def ke:=@PySem.wpAny_truthy_bool
def kj:=@PySem.wpAny_dictEntries
def kn:=@Nat.lt_succ_of_lt
def ko:=@List.flatten_cons
def kr:=@List.filter_congr
def ku:=@Decidable.not_not
def kD:=@PySem.Calls.spliced_nil
def kJ:=@PySem.wpAny_letGo
def kK:=@PySem.call_meets
def kN:=@List.take_succ
def kO:=@List.idxOf_cons_self
def kP:=@PySem.Calls.evalArgs_plain
def kQ:=@PySem.Around.under_plainId
def k9:=@Nat.testBit_succ
def lc:=@Nat.sub_self
def le:=@List.filter_cons
def lh:=@List.cons_append
def lj:=@PySem.F.slot_tuple_mul
def lv:=@PySem.F.type_list_reverse
def lw:=@PySem.F.slot_list_reverse
def lJ:=@PySem.wpAny_attempt
def lK:=@PySem.plainId_quiet
def lL:=@PySem.F.args_tuple_add_2
def lM:=@List.map_take
def lN:=@List.map_drop
def lR:=@Option.map_some
def lS:=@Nat.two_pow_pos
def lT:=@Bool.or_eq_true
def lX:=@PySem.wpAny_rule
def lY:=@PySem.tupleKind_room_in1
def lZ:=@PySem.W.callWith_K
def l0:=@PySem.Obj.data_mapFields
def l4:=@List.pairwise_cons
def l5:=@List.map_replicate
def l6:=@List.getElem?_drop
def l7:=@Bool.false_eq_true
def mq:=@PySem.sizeLine_eq
def mr:=@PySem.F.entry_tuple_add
def mz:=@PySem.wpAny_pyIter_enum
def mB:=@PySem.codeAny_mono
def mC:=@PySem.F.slot_tuple_add
def mD:=@List.idxOf_append
def mE:=@List.getElem_replicate
def mF:=@List.getElem?_set_self
def mG:=@List.flatMap_cons
def mH:=@List.find?_cons_of_pos
def mI:=@List.drop_drop
def mJ:=@Int.ofNat_le
def mL:=@PySem.F.args_zip_next_1
def mM:=@Bool.not_eq_true'
def nj:=@beq_self_eq_true
def nn:=@PySem.F.args_dict_setdefault_3
def np:=@Nat.testBit_zero
def nq:=@Nat.succ_le_succ
def nr:=@List.find?_eq_some_iff_getElem
def nt:=@PySem.F.entry_zip_next
abbrev nu:=PySem.DictEntry
def nI:=@List.drop_nil
def nN:=@PySem.W.hideAll_size
def nO:=@PySem.F.entry_dict_setdefault
def nQ:=@Nat.mul_le_mul_right
def nR:=@List.reverse_reverse
def nT:=@List.mem_of_mem_drop
def nU:=@List.getElem?_set_ne
def oj:=@PySem.wpAny_loadPart'
def om:=@PySem.wpAny_execs_nil
def on:=@PySem.codeAny_builtin
def oq:=@PySem.F.slot_int_rmul
def oB:=@PySem.W.plainGet_of
def oC:=@List.drop_succ_cons
def oE:=@List.countP_eq_zero
def oI:=@if_true
def oJ:=@Nat.succ_mul
def oK:=@Nat.pow_succ
def oM:=@Nat.mul_comm
def oN:=@List.map_id'
def pB:=@PySem.wpAny_setField
def pC:=@if_false
def pD:=@Nat.add_sub_cancel
def pE:=@List.zip_cons_cons
def pF:=@List.getElem_idxOf
def pG:=@List.find?_eq_none
def qh:=@Nat.one_mul
def qi:=@List.getElem?_set
def qj:=@List.foldl_append
def qk:=@List.any_eq_false
def qC:=@List.cons.inj
def qN:=@Nat.succ_ne_zero
def qO:=@Nat.succ_lt_succ
def qP:=@List.map_reverse
def qQ:=@List.ext_getElem
def rD:=@Bool.true_or
open Bool (noConfusion)
open Int (not_le)
open List (filter_map of_mem_zip range' replicate)
open Nat (add_mul)
open Option (bind_some)
open Prod (fst snd)
open PyFlat (played rows told)
open PySem.AutoSeq1 (idx_int)
open PySem.Builtin.Dict (showsAll)
open PySem.Builtin.Dict_items (ownsTuple)
open PySem.Builtin.List (listSameRef listTooLong)
open PySem.Builtin.Range (rangeSize small)
open PySem.Builtin.Slice (sliceAdjust slicePlaces)
open PySem.Builtin.SmallTypes (nextOf ownedTupleIsFree)
open PySem.Builtin.Tuple (tupleItemsOf tupleTooMany)
open PySem.Code (isFrame)
open PySem.Heap (ExtBut)
open PySem.Obj (mapSeq)
open PySem.Paired (snoc)
open PySem.Str (ofString)
open PySem.W (TabsAt WRecords callWith_of envX fnX hideAll hideAll_get kdl_call keepIn kla_fn mg_of noTabs nsIn of_hideAll tabObj)
open PySem.W.Looks (of_pure)
open PyWqarao (answers answers_asked shape)
open Wqarao (Answer Join MANY WORD joined ofKind opens rowTold tells try_ wordsFor)
open WqaraoNeutral (asked1 callOf long nats natural numbers)
namespace L2
open PySem PySem.Spec PyProof.Rows
abbrev nB:=Sum Int Str
def Ae:nB->aA->Bool
 | .inl k,v=>Value.isInt k v
 | .inr x,v=>Value.isStrOf x v
def acu (w:cV):nB->Int
 | .inl k=>hashInt k
 | .inr x=>hashStr w x
def iI:∀{k:nB} {v:aA},Ae k v=true->(∃i t,k=Sum.inl i/\v=Value.int i t)\/(∃x t,k=Sum.inr x/\v=Value.str x t)
 | .inl i,v,h=>by
  obtain⟨t,e⟩:=Value.isInt_shape (v:=v) h;exact .inl #[i,t,rfl,e]
 | .inr x,v,h=>by
  obtain⟨t,e⟩:=Value.isStrOf_shape h;exact .inr #[x,t,rfl,e]
def Lm (i:Int) (t:Tok):Ae (.inl i) `kN'=true:=by simp[Ae,Value.isInt]
def K2 (x:Str) (t:Tok):Ae (.inr x) (.str x t)=true:=by simp[Ae,Value.isStrOf]
def Vw (a b:Int):decide ((Sum.inl a:nB)=Sum.inl b)=(a==b):=by
 by_cases e:a=b
 ·subst e;simp
 ·have h:¬(Sum.inl a:nB)=Sum.inl b:=fun q=>e (Sum.inl.inj q);rw[bS h];exact(gz.mpr e).symm
def Vk (a b:Str):decide ((Sum.inr a:nB)=Sum.inr b)=decide (a=b):=by
 by_cases e:a=b
 ·subst e;simp
 ·have h:¬(Sum.inr a:nB)=Sum.inr b:=fun q=>e (Sum.inr.inj q);rw[bS h,bS e]
def Wf (a:Int) (b:Str):decide ((Sum.inl a:nB)=Sum.inr b)=false:=bS (fun q=>nomatch q)
def Vy (a:Str) (b:Int):decide ((Sum.inr a:nB)=Sum.inl b)=false:=bS (fun q=>nomatch q)
def ij (prog:bN) (w:cV):PySem.KeyKind prog w nB where
 is:=Ae
 hash:=acu w
 inj:=fun v a b ha hb=>by
  rcases iI ha with⟨i,t,rfl,rfl⟩| ⟨x,t,rfl,rfl⟩
  ·rcases iI hb with⟨j,u,rfl,e⟩| ⟨y,u,rfl,e⟩
   ·injection e with e1 _;rw[e1]
   ·exact nomatch e
  ·rcases iI hb with⟨j,u,rfl,e⟩| ⟨y,u,rfl,e⟩
   ·exact nomatch e
   ·injection e with e1 _;rw[e1]
 byValue:=fun k v h=>by
  rcases iI h with⟨i,t,rfl,rfl⟩| ⟨x,t,rfl,rfl⟩<;>rfl
 pyHash:=fun hv h=>by
  rcases iI hv with⟨i,t,rfl,rfl⟩| ⟨x,t,rfl,rfl⟩
  ·exact wpAny_pyHash_int h
  ·exact wpAny_pyHash_str h
 eqBool:=fun hu hv h=>by
  rcases iI hu with⟨i,t,rfl,rfl⟩| ⟨x,t,rfl,rfl⟩
  ·show 235
   ·rw[Vw] at h;exact wpAny_eqBool_int h
   ·rw[Wf] at h;exact SeqAt.EqAt.int_str i t y u _ _ _ _ h
  ·show 235
   ·rw[Vy] at h;exact SeqAt.EqAt.str_int x t j u _ _ _ _ h
   ·rw[Vk] at h;exact wpAny_eqBool_str h
 «strs»:=fun k x t v h=>by
  rcases iI h with⟨i,u,rfl,e⟩| ⟨y,u,rfl,e⟩
  ·exact nomatch e
  ·injection e with e1 _
   subst e1;cases v<;>rfl
def F0 (prog:bN) (w:cV) (i:Int) (t:Tok):(ij prog w).is (.inl i) `kN'=true:=Lm i t
def FR (prog:bN) (w:cV) (x:Str) (t:Tok):(ij prog w).is (.inr x) (.str x t)=true:=K2 x t
inductive V where
 |non|bl (b:Bool)|int (i:Int)|str (x:Str)|byt (b:Array UInt8)|flt (b:UInt64)|ref (a:ak)|ty (n:String)
 deriving DecidableEq
def ff:V->aA->Prop
 | .non,u=>u=Value.none
 | .bl b,u=>u=Value.bool b
 | .int i,u=>∃t,u=Value.int i t
 | .str x,u=>∃t,u=Value.str x t
 | .byt b,u=>∃t,u=Value.bytes b t
 | .flt b,u=>∃t,u=Value.float b t
 | .ref a,u=>u=Value.ref a
 | .ty n,u=>u=Value.type n
abbrev dy:List V->List aA->Prop:=Paired ff
def dy.length {xs:List V} (r:dy xs us):xs.length=us.length:=bH r
def dy.get:∀{xs:List V} {us:List aA} {i:Nat} {x:V},dy xs us->xs[i]? =some x->∃u,us[i]? =some u/\ff x u
 |_,_,_,_,.nil,e=>by simp at e
 |_,_,0,_,.cons r _,e=>by simp at e;subst e;exact#[_,rfl,r]
 |_,_,i+1,x,.cons _ t,e=>by
  obtain⟨u,h1,h2⟩:=dy.get (x:=x) t `lR';exact#[u,by simpa using h1,h2]
def dy.set {x:V} (r:ff x u):∀{xs:List V} {us:List aA} (i:Nat),dy xs us->dy (xs.set i x) (us.set i u)
 |_,_,_,.nil=>.nil
 |_,_,0,.cons _ t=>.cons r t
 |_,_,i+1,.cons q t=>.cons q (dy.set r i t)
def dy.append:∀{xs ys:List V} {us ws:List aA},dy xs us->dy ys ws->dy (xs++ys) (us++ws)
 |_,_,_,_,.nil,s=>s
 |_,_,_,_,.cons r t,s=>.cons r (dy.append t s)
def dy.take:∀{xs:List V} {us:List aA} (n:Nat),dy xs us->dy (xs.take n) (us.take n)
 |_,_,0,_=>.nil
 |_,_,_+1,.nil=>.nil
 |_,_,n+1,.cons r t=>.cons r (dy.take n t)
def dy.drop:∀{xs:List V} {us:List aA} (n:Nat),dy xs us->dy (xs.drop n) (us.drop n)
 |_,_,0,r=>r
 |_,_,_+1,.nil=>.nil
 |_,_,n+1,.cons _ t=>dy.drop n t
def sD:Option V->Option aA->Prop
 |some v,some u=>ff v u
 |none,none=>True
 |_,_=>False
def KV {κ:Type}:List (κ×V)->List (κ×aA)->Prop:=Paired fun(p:κ×V) (q:κ×aA)=>p.1=q.1/\ff p.2 q.2
def kV:nB->V
 | .inl i=>.int i
 | .inr x=>.str x
inductive HO where
 |lst (xs:List V)
 |tup (xs:List V)
 |dK (kvs:List (nB×V))|dT (kvs:List (List nB×V))
 |set (S:Int->Bool) (n:Nat)
 |ins (C dx:ak) (fs:List (Str×V))
 |own (x:ak)
 |xd (fs:List (Str×V))
 |met (f x:ak)
 |rng (lo hi:Int)
 |frz (o:Obj) (u:HO)
 |tbl (ps:Array aA)
 |ext (φ:cZ->Prop)
abbrev Hp:=ak->Option HO
def bO (H:Hp) (a:ak) (o:HO):Hp:=fun b=>if b=a then some o else H b
def aq {H:Hp}:bO H a o a=some o:=by unfold bO;rw[aD rfl]
def aZ {H:Hp} (h:b≠a):bO H a o b=H b:=by unfold bO;rw[au h]
def eD {H:Hp} {o u:HO} (h:H a=some o) (h':H b=some u) (d:o≠u):a≠b:=by
 intro e;subst e;rw[h] at h';exact d (aP h')
def a9 {H:Hp} (h:H a=some o) (h':H b=none):a≠b:=by
 intro e;subst e;rw[h] at h';cases h'
section
variable (P:bN) (w:cV)
def kW (H:Hp) (h:cZ) (a:ak):HO->Prop
 | .lst xs=>xs.length<=sizeLine/\∃(its:List aA) (n:Nat),dy xs its/\h.get? a=some {cls:=.type "list",data:=.seq its.toArray n}
 | .tup xs=>xs.length<=sizeLine/\∃its:List aA,dy xs its/\IsTup h a its.toArray
 | .dK kvs=>kvs.length<=sizeLine/\`d3'=false/\∃vs,KV kvs vs/\h.DictOf `hA' a vs
 | .dT kvs=>kvs.length<=sizeLine/\`d3'=false/\∃xs:List (List nB×ak×aA),
  Paired (fun(p:List nB×V) (q:List nB×ak×aA)=>p.1=q.1/\H q.2.1=some (.tup (p.1.map kV))/\ff p.2 q.2.2) kvs xs/\
  ∃o es ep,h.get? a=some o/\o.ExactDict/\o.data= .dict es ep/\es.toList=xs.map (entryOfKey (tupleKind `hA'))/\(xs.map (·.1)).Nodup
 | .set S n=>h.SetOf (intKind P w) a S n
 | .ins C dx fs=>H dx=some (.own a)/\fs.length<=1000/\dx≠a/\h.get? a=some `i9'/\
  ∃mA,h.Ns1 dx mA/\(∀f,sD (fs.lookup f) (mA f))/\PySem.Within mA (fs.map (·.1))
 | .own _=>∃o,h.get? a=some o
 | .xd fs=>∃mA,h.Ns1 a mA/\∀f,sD (fs.lookup f) (mA f)
 | .rng lo hi=>∃t u v,h.get? a=some {cls:=.type "range",data:=.fields `aK'}
 | .frz o u=>h.get? a=some o/\kW H h a u
 | .tbl ps=>h.get? a=some {cls:=.none,data:=.fields ps}
 | .met f x=>h.get? a=some (PySem.W.methodObj `bA' (.ref x))
 | .ext φ=>φ h/\(∃o,h.get? a=some o)/\∀h1 h2:cZ,φ h1->(∀o,h1.get? a=some o->h2.get? a=some o)->φ h2
def sG (H:Hp) (h:cZ):Prop:=∀a o,H a=some o->kW P w H h a o
end
section
variable {P:bN} {w:cV} {H H':Hp} {h h':cZ} {a:ak} {o:HO}
def kW.lt (x:kW P w H h a o):a<h.objs.size:=by
 cases o with
 |lst xs=>obtain⟨_,_,_,_,e⟩:=x;exact a8 e
 |tup xs=>obtain⟨_,_,_,p⟩:=x;exact p.lt
 |dK kvs=>obtain⟨_,_,_,_,o,_,_,e,_⟩:=x;exact a8 e
 |dT kvs=>obtain⟨_,_,_,_,o,_,_,e,_⟩:=x;exact a8 e
 |set S n=>obtain⟨o,_,_,_,e,_⟩:=x;exact a8 e
 |ins C dx fs=>obtain⟨_,_,_,e,_⟩:=x;exact a8 e
 |own y=>obtain⟨_,e⟩:=x;exact a8 e
 |xd fs=>obtain⟨_,⟨_,_,_,e,_⟩,_⟩:=x;exact a8 e
 |rng lo hi=>obtain⟨_,_,_,e⟩:=x;exact a8 e
 |frz ob u=>obtain⟨e,_⟩:=x;exact a8 e
 |tbl ps=>exact a8 (x)
 |met f y=>exact a8 (show h.get? a=some _ from x)
 |ext φ=>obtain⟨_,⟨_,e⟩,_⟩:=x;exact a8 e
def Paired.mapP {α β:Type} {F G:α->β->Prop}:∀{l₁:List α} {l₂:List β},Paired F l₁ l₂->(∀a b,F a b->G a b)->Paired G l₁ l₂
 |_,_,.nil,_=>.nil
 |_,_,.cons r t,f=>.cons (f _ _ r) (Paired.mapP t f)
def kW.stay (x:kW P w H h a o) (k:∀b u,(b=a\/H b=some (.own a))->h.get? b=some u->h'.get? b=some u)
 (ho:∀b,H b=some (.own a)->H' b=some (.own a)) (ht:∀b xs,H b=some `cd'->H' b=some `cd'):kW P w H' h' a o:=by
 induction o with
 |lst xs=>obtain⟨z,its,n,r,e⟩:=x;exact#[z,its,n,r,k _ _ `a8' e]
 |tup xs=>obtain⟨z,its,r,ob,e,c⟩:=x;exact#[z,its,r,ob,k _ _ `a8' e,c]
 |dK kvs=>obtain⟨z,y,vs,r,ob,es,ep,e,c⟩:=x;exact#[z,y,vs,r,ob,es,ep,k _ _ `a8' e,c]
 |dT kvs=>
  obtain⟨z,y,xs,r,ob,es,ep,e,c⟩:=x;exact#[z,y,xs,Paired.mapP r fun p q z=>#[z.1,ht _ _ z.2.1,z.2.2],ob,es,ep,k _ _ `a8' e,c]
 |set S n=>obtain⟨ob,es,ep,t,e,c⟩:=x;exact#[ob,es,ep,t,k _ _ `a8' e,c]
 |ins C dx fs=>
  obtain⟨d,z,ne,e,mA,⟨od,es,ep,e2,c⟩,r⟩:=x;exact#[ho _ d,z,ne,k _ _ `a8' e,mA,#[od,es,ep,k _ _ (.inr d) e2,c],r]
 |own y=>obtain⟨ob,e⟩:=x;exact#[ob,k _ _ `a8' e]
 |xd fs=>obtain⟨mA,⟨od,es,ep,e,c⟩,r⟩:=x;exact#[mA,#[od,es,ep,k _ _ `a8' e,c],r]
 |rng lo hi=>obtain⟨t,u,v,e⟩:=x;exact#[t,u,v,k _ _ `a8' e]
 |frz ob u ih=>obtain⟨e,q⟩:=x;exact#[k _ _ `a8' e,ih q]
 |tbl ps=>
  have e:=x;show h'.get? a=some {cls:=.none,data:=.fields ps};exact k a _ `a8' e
 |met f y=>
  have e:=x;exact k a _ `a8' e
 |ext φ=>obtain⟨p,⟨o,e⟩,st⟩:=x;exact#[st _ _ p fun o q=>k _ _ `a8' q,#[o,k _ _ `a8' e],st]
def sG.lt (x:sG P w H h) (e:H a=some o):a<h.objs.size:=(x a o e).lt
def sG.fresh (x:sG P w H h) (e:h.objs.size<=a):H a=none:=by
 cases q:H a with
 |none=>rfl
 |some u=>exact absurd (bD (x.lt q) e) (dz _)
def sG.kept (x:sG P w H h) (k:∀b u,h.get? b=some u->h'.get? b=some u):sG P w H h':=fun a o e=>
 (x a o e).stay (fun b u _ q=>k b u q) `nr' fun _ _ q=>q
def sG.laid (x:sG P w H h) (k:∀b u,h.get? b=some u->h'.get? b=some u) (hp:h.objs.size<=a) (new:kW P w `jb' h' a o):sG P w `jb' h':=fun b u e=>by
 have hn:=x.fresh hp;by_cases hb:b=a
 ·subst hb;show 167;exact new
 ·rw[aZ hb] at e;exact(x b u e).stay (fun c v _ q=>k c v q) `jP' fun c xs q=>by rw[aZ (a9 q hn)];exact q
end
def Rd (H:Hp) (a:ak) (u:HO):Prop:=H a=some u\/∃o,H a=some `i0'
def Rd.ok (r:Rd H a u) (x:sG P w H h):kW P w H h a u:=by
 rcases r with r| ⟨o,r⟩
 ·exact x a u r
 ·obtain⟨_,q⟩:=x a _ r;exact q
def Z7:Option HO->Prop
 |some (.lst _)=>True
 |some (.dK _)=>True
 |some (.dT _)=>True
 |some (.set _ _)=>True
 |some (.ins _ _ _)=>True
 |some (.ext _)=>True
 |_=>False
section
variable {P:bN} {w:cV} {H:Hp} {h h':cZ} {x e:ak} {o':HO}
def sG.write (ok:sG P w H h) (mu:Z7 (H x)) (he:e=x\/H e=some `i3') (k:∀b u,b≠e->h.get? b=some u->h'.get? b=some u) (WE:∃u,h'.get? e=some u)
 (new:kW P w (bO H x o') h' x o'):sG P w (bO H x o') h':=fun b u q=>by
 have XF:∀c y,H c=some (.own y)->c≠x:=fun c y r z=>by subst z;rw[r] at mu;exact mu
 have aa5:∀c xs,H c=some `cd'->c≠x:=fun c xs r z=>by subst z;rw[r] at mu;exact mu
 by_cases hb:b=x
 ·subst hb;rw[aq] at q;cases q;exact new
 ·rw[aZ hb] at q;by_cases Q9:b=e
  ·have q':H b=some `i3':=by
    rcases he with z|z
    ·exact absurd (Q9.trans z) hb
    ·rw[Q9];exact z
   rw[q] at q';cases q';obtain⟨v,hv⟩:=WE;exact#[v,by rw[Q9];exact hv]
  ·refine(ok b u q).stay (fun c v hc r=>k c v ?_ r) (fun c r=>by rw[aZ (XF c b r)];exact r) fun c xs r=>by rw[aZ (aa5 c xs r)];exact r
   rcases hc with rfl|hc
   ·exact Q9
   ·rintro rfl;rcases he with z|z
    ·exact XF c b hc z
    ·rw[hc] at z;cases z;exact hb rfl
end
structure Un (fs ex:List ak) (H H':Hp) (h h':cZ):Prop where
 keep:∀b o,h.get? b=some o->H b=none->b∉fs->b∉ex->h'.get? b=some o
 slot:∀b o,h.get? b=some o->H b=none->b∈fs->b∉ex->∃sl,h'.get? b=some {o with slots:=sl}
 free:∀b o,h.get? b=some o->H b=none->b∉ex->H' b=none
 there:∀b o,h.get? b=some o->b∉ex->∃o',h'.get? b=some o'
 tups:∀b xs,H b=some `cd'->H' b=some `cd'
 frzs:∀b o u,H b=some `i0'->H' b=some `i0'
 tbls:∀b ps,H b=some `jx'->∃more,H' b=some (.tbl (ps++more))
section
variable {fs fs' ex ex':List ak} {H H1 H2:Hp} {h h1 h2 h':cZ} {a x e:ak} {o:HO}
def Un.any (u:Un fs ex H H1 h h1) (q:h.get? b=some ob) (n:H b=none) (hx:b∉ex):∃sl,h1.get? b=some {ob with slots:=sl}:=by
 by_cases hb:b∈fs
 ·exact u.slot b ob q n hb hx
 ·exact#[ob.slots,u.keep b ob q n hb hx]
def Un.kept (k:∀b u,h.get? b=some u->h'.get? b=some u):Un fs ex H H h h':=
 #[fun b ob q _ _ _=>k b ob q,fun b ob q _ _ _=>#[ob.slots,k b ob q],fun _ _ _ n _=>n,fun b ob q _=>#[ob,k b ob q],fun _ _ q=>q,fun _ _ _ q=>q,fun _ ps q=>#[#[],by rw[q];simp]]
def Un.refl:Un fs ex H H h h:=Un.kept fun _ _ q=>q
def Un.laid (k:∀b u,h.get? b=some u->h'.get? b=some u) (hp:h.objs.size<=a) (hn:H a=none):Un fs ex H `jb' h h' where
 keep:=fun b u q _ _ _=>k b u q
 slot:=fun b u q _ _ _=>#[u.slots,k b u q]
 free:=fun b u q n _=>by rw[aZ (cF (bD (a8 q) hp))];exact n
 there:=fun b u q _=>#[u,k b u q]
 tups:=fun b xs q=>by rw[aZ (a9 q hn)];exact q
 frzs:=fun b u xs q=>by rw[aZ (a9 q hn)];exact q
 tbls:=fun b ps q=>#[#[],by rw[aZ (a9 q hn),q];simp]
def Un.write (mu:Z7 (H x)) (he:e=x\/H e=some `i3') (k:∀b u,b≠e->h.get? b=some u->h'.get? b=some u) (WE:∃u,h'.get? e=some u):Un fs ex H `nl' h h':=by
 have hx:∀b,H b=none->b≠x:=fun b n z=>by subst z;rw[n] at mu;exact mu
 have hb:∀b,H b=none->b≠e:=fun b n z=>by
  subst z;rcases he with r|r
  ·exact hx b n r
  ·rw[n] at r;cases r
 have hm:∀b u,H b=some u->¬Z7 (some u)->b≠x:=fun b u q nm z=>by subst z;rw[q] at mu;exact nm mu
 refine⟨fun b u q n _ _=>k b u (hb b n) q,fun b u q n _ _=>⟨u.slots,k b u (hb b n) q⟩,fun b u q n _=>by rw[aZ (hx b n)];exact n,fun b u q _=>?_,
  fun b xs q=>by rw[aZ `la'];exact q,fun b u xs q=>by rw[aZ `la'];exact q,fun b ps q=>#[#[],by rw[aZ `la',q];simp]⟩
 by_cases Q9:b=e
 ·subst Q9;exact WE
 ·exact#[u,k b u Q9 q]
end
def trk (h:cZ) (H:Hp):List ak:=(List.range h.objs.size).filter fun a=>(H a).isSome
def Fn (h:cZ) (H:Hp):cZ:=hideAll h (trk h H)
def Mq (h:cZ) (H:Hp):(Fn h H).objs.size=h.objs.size:=nN _ _
def PZ (e:h.get? b=some o) (n:H b=none):(Fn h H).get? b=some o:=
 hideAll_get _ e fun hm=>by
  have q:=(aO.mp hm).2;rw[n] at q;simp at q
def SO {b:ak} (e:(Fn h H).get? b=some o):h.get? b=some o/\H b=none:=by
 have e':=of_hideAll (trk h H) e;refine#[e',?_];cases q:H b with
 |none=>rfl
 |some x=>
  have hm:b∈trk h H:=aO.mpr #[aL.mpr (a8 e'),by simp[q]];have z:(Fn h H).get? b=none:=PySem.W.hideAll_none (trk h H) hm;rw[z] at e;cases e
structure Mod (K:ai) (mg:Str->Option aA) (base:cZ):Prop where
 kin:K.In base
 glob:base.Ns mainGlobals mg
 blt:∃mb,base.Ns builtinsNs mb/\∀x:Str,x≠"__name__"->mb x=bootBuiltins x
 nolimit:base.NoLimit
structure Cx where
 prog:bN
 w:cV
 K:ai
 mg:Str->Option aA
 base:cZ
 A:dY
 N:List Str
 s_0:aS
 H_0:Hp
 env:Env
 outer:List Env
 stack:List Env
 ex:List ak
 fn:Str->Bool
 calm:Bool
 pn:List `cQ'
 xe:aA->aS->Prop
def Ig (l:List Env):List ak:=l.filterMap (·.frame)
abbrev Cx.fs (X:Cx):List ak:=Ig X.outer
def Uc (sc:ju) (x:Str):Prop:=sc.names.lookup x=some .local\/sc.names.lookup x=some .cell\/sc.names.lookup x=some .free
def VU (sc:ju) (x:Str):Prop:=sc.names.lookup x=some .local\/sc.names.lookup x=some .cell
def V4 (env:Env) (h:cZ) (m:Str->Option aA) (x:Str) (u:aA):Prop:=
 (env.kindOf x=some .local/\m x=some u)\/((env.kindOf x=some .cell\/env.kindOf x=some .free)/\∃c,env.cells.lookup x=some c/\h.IsCell c (some u))
structure Cx.Ok (X:Cx):Prop where
 mod:Mod X.K X.mg X.base
 kind:X.env.scope.kind= .function
 glob:X.env.globals=mainGlobals
 blt:X.env.builtins=builtinsNs
 above:X.s_0.heap.objs.size<=X.env.locals
 inj:∀x y c,X.env.cells.lookup x=some c->X.env.cells.lookup y=some c->x=y
 has:∀x,(X.env.kindOf x=some .cell\/X.env.kindOf x=some .free)->∃c,X.env.cells.lookup x=some c
 cab:∀x c,X.fn x=true->X.env.cells.lookup x=some c->X.s_0.heap.objs.size<=c
 hd:X.calm=true->X.A.handled=none
 frames:X.A.frames=some X.stack
 stk:X.stack=X.outer\/(X.stack=X.env::X.outer/\X.env.frame=some X.env.locals)
 exf:∀b∈X.ex,b≠X.env.locals/\∀x c,X.env.cells.lookup x=some c->c≠b
 bs:∀b o,X.base.get? b=some o->X.s_0.heap.get? b=some o/\X.H_0 b=none
 bsz:X.base.objs.size<=X.s_0.heap.objs.size
 noex:∀b o,X.base.get? b=some o->b∉X.ex
 exfs:∀b∈X.ex,b∉X.fs
 funs:X.s_0.heap.FunFrames X.base X.outer
 frf:∀b∈X.fs,X.H_0 b=none
structure cB (X:Cx) (pins:List `cQ') (σ:List (Option V)) (H:Hp) (s:aS):Prop where
 ok:X.Ok
 os:s.os=X.s_0.os
 bare:AllBare s.gens
 base:Un X.fs X.ex X.H_0 H X.s_0.heap s.heap
 loc:∃m,s.heap.Ns X.env.locals m/\∀(i:Nat) (x:Str) (v:V),X.N[i]? =some x->σ[i]? =some `eG'->Uc X.env.scope x->∃u,ff v u/\V4 X.env s.heap m x u
 cell:∀x c,X.env.cells.lookup x=some c->∃v,s.heap.IsCell c v
 free:H X.env.locals=none
 freeC:∀x c,X.env.cells.lookup x=some c->H c=none
 pin:∀p∈X.pn++pins,s.heap.get? p.1=some p.2/\H p.1=none/\p.1≠X.env.locals/\p.1∉X.fs/\∀v,p.2.data≠ .cell v
 hok:sG X.prog X.w H s.heap
 len:σ.length=X.N.length
section
variable {X:Cx} {pins:List (ak×Obj)} {σ:List (Option V)} {H H':Hp} {s:aS} {h':cZ}
def Cx.Ok.nofr (ok:X.Ok) (e:X.base.get? b=some o):b∉X.fs:=fun hb=>by
 have:=(ok.funs.mem hb).1;rw[e] at this;cases this
def cB.bs (I:cB X pins σ H s):∀b o,X.base.get? b=some o->s.heap.get? b=some o/\H b=none:=fun b o e=>
 #[I.base.keep b o (I.ok.bs b o e).1 (I.ok.bs b o e).2 (I.ok.nofr e) (I.ok.noex b o e),I.base.free b o (I.ok.bs b o e).1 (I.ok.bs b o e).2 (I.ok.noex b o e)]
def cB.bk (I:cB X pins σ H s):∀b o,X.base.get? b=some o->s.heap.get? b=some o:=fun b o e=>(I.bs b o e).1
def cB.mod (I:cB X pins σ H s):Mod X.K X.mg X.base:=I.ok.mod
def cB.kIn (I:cB X pins σ H s):X.K.In s.heap:=I.ok.mod.kin.keeps I.bk
def cB.nolimit (I:cB X pins σ H s):s.heap.NoLimit:=I.ok.mod.nolimit.keeps I.bk
def cB.lt (I:cB X pins σ H s):X.env.locals<s.heap.objs.size:=let⟨_,hn,_⟩:=I.loc;hn.lt
def cB.sz (I:cB X pins σ H s):X.s_0.heap.objs.size<=s.heap.objs.size:=aU I.ok.above (eo I.lt)
def cB.nofs (I:cB X pins σ H s) (h:s.heap.objs.size<=a):a∉X.fs:=fun hb=>by
 obtain⟨_,o,ho,_⟩:=I.ok.funs.mem hb;exact absurd (bD (a8 ho) (aU I.sz h)) (dz _)
def cB.cne (I:cB X pins σ H s):∀x c,X.env.cells.lookup x=some c->c≠X.env.locals:=fun x c e z=>by
 obtain⟨v,o,ho,hd⟩:=I.cell x c e;obtain⟨m,⟨o',es,ep,MO,wn,_⟩,_⟩:=I.loc;rw[z,MO] at ho;cases ho;rw[wn] at hd;cases hd
def cB.funs (I:cB X pins σ H s):s.heap.FunFrames X.base X.outer:=by
 have all:∀(l:List Env),(∀b∈Ig l,b∈X.fs)->X.s_0.heap.FunFrames X.base l->s.heap.FunFrames X.base l:=by
  intro l
  induction l with
  |nil=>intro _ _;trivial
  |cons env r ih=>
   intro hs hl;obtain⟨hk,⟨L,o,hf,hn,ho,hd⟩,hr⟩:=hl;have hL:=hs L `lz';obtain⟨sl,e⟩:=I.base.slot L o ho (I.ok.frf L hL) hL fun z=>I.ok.exfs L z hL;exact#[hk,#[L,_,hf,hn,e,hd],ih (fun b hb=>hs b (by unfold Ig;rw[jz,hf];exact aK _ hb)) hr]
 exact all X.outer (fun _ hb=>hb) I.ok.funs
def cB.stack (I:cB X pins σ H s):s.heap.FunFrames X.base X.stack:=by
 rcases I.ok.stk with e| ⟨e,hf⟩
 ·rw[e];exact I.funs
 ·rw[e];obtain⟨m,hn,_⟩:=I.loc;refine .cons (by rw[I.ok.kind];decide) hf hn ?_ I.funs;exact Heap.get?_none_of_le (aU I.ok.bsz I.ok.above)
def cB.stkSub (I:cB X pins σ H s):∀b∈Ig X.stack,b∈X.env.locals::X.fs:=fun b hb=>by
 rcases I.ok.stk with e| ⟨e,hf⟩
 ·rw[e] at hb;exact aK _ hb
 ·rw[e] at hb;unfold Ig at hb;rw[jz,hf] at hb;exact hb
def cB.stkFree (I:cB X pins σ H s):∀b∈Ig X.stack,H b=none:=fun b hb=>by
 rcases bh.mp (I.stkSub b hb) with e|hb
 ·rw[e];exact I.free
 ·obtain⟨_,o,ho,_⟩:=I.ok.funs.mem hb;exact I.base.free b o ho (I.ok.frf b hb) fun z=>I.ok.exfs b z hb
def cB.step {ch:List ak} (I:cB X pins σ H s)
 (GC:∀b∈ch,`de'/\b≠X.env.locals/\(∀x c,X.env.cells.lookup x=some c->c≠b)/\∀p∈X.pn++pins,p.1≠b)
 (keep:∀b o,b≠X.env.locals->b∉X.fs->b∉ch->s.heap.get? b=some o->H b=none->h'.get? b=some o)
 (slot:∀b o,b≠X.env.locals->b∈X.fs->b∉ch->s.heap.get? b=some o->H b=none->∃sl,h'.get? b=some {o with slots:=sl}) (free:∀b o,b∉ch->s.heap.get? b=some o->H b=none->H' b=none)
 (there:∀b o,b∉ch->s.heap.get? b=some o->∃o',h'.get? b=some o')
 (tups:∀b xs,H b=some `cd'->H' b=some `cd') (frzs:∀b o u,H b=some `i0'->H' b=some `i0') (tbls:∀b ps,H b=some `jx'->∃more,H' b=some (.tbl (ps++more)))
 (ns:∀m,s.heap.Ns X.env.locals m->h'.Ns X.env.locals m) (hok:sG X.prog X.w H' h') (hg:AllBare g'):
 cB X pins σ H' {s with heap:=h',gens:=g',drawn:=d',toks:=t'}:=by
 have neL:∀b o,X.s_0.heap.get? b=some o->b≠X.env.locals:=fun b o e=>cF `f4';have neC:∀b o,X.s_0.heap.get? b=some o->b∉X.ex->b∉ch:=fun b o e hx hb=>by
  rcases(GC b hb).1 with z|z
  ·exact hx z
  ·exact absurd (bD (a8 e) z) (dz _)
 have S8:∀x c,X.env.cells.lookup x=some c->∀v,s.heap.IsCell c v->h'.IsCell c v:=fun x c e v ⟨o,ho,hd⟩=>by
  have Xc:=fun z=>(GC c z).2.2.1 x c e rfl;by_cases hc:c∈X.fs
  ·obtain⟨sl,q⟩:=slot c o (I.cne x c e) hc Xc ho (I.freeC x c e);exact#[_,q,hd]
  ·exact#[o,keep c o (I.cne x c e) hc Xc ho (I.freeC x c e),hd]
 refine#[I.ok,I.os,hg,#[fun b o e n hb hx=>?_,fun b o e n hb hx=>?_,fun b o e n hx=>?_,fun b o e hx=>?_,fun b xs e=>tups b xs (I.base.tups b xs e),fun b o xs e=>frzs b o xs (I.base.frzs b o xs e),fun b ps e=>?_],?_,fun x c e=>?_,?_,fun x c e=>?_,fun p hp=>?_,hok,I.len]
 ·exact keep b o (neL b o e) hb `lh' `g1' `h8'
 ·show 122;obtain⟨Wl,e2⟩:=slot b _ (neL b o e) hb `lh' e1 `h8';exact#[Wl,e2]
 ·show 77;exact free b o' `lh' e1 `h8'
 ·show 77;exact there b o' `lh' e1
 ·obtain⟨m1,e1⟩:=I.base.tbls b ps e;obtain⟨m2,e2⟩:=tbls b _ e1;exact#[m1++m2,by rw[e2,Array.append_assoc]]
 ·show 120;refine#[m,ns m hn,fun i x v e1 e2 e3=>?_];obtain⟨u,r,l⟩:=hl i x v e1 e2 e3;refine#[u,r,?_];rcases l with l| ⟨k,c,e,z⟩
  ·exact .inl l
  ·exact .inr #[k,c,e,S8 x c e _ z]
 ·obtain⟨v,z⟩:=I.cell x c e;exact#[v,S8 x c e v z]
 ·obtain⟨m,⟨o,_,_,ho,_⟩,_⟩:=I.loc;exact free _ o (fun z=>(GC _ z).2.1 rfl) ho I.free
 ·obtain⟨v,o,ho,hd⟩:=I.cell x c e;exact free c o (fun z=>(GC c z).2.2.1 x c e rfl) ho (I.freeC x c e)
 ·show 182;have Xc:=fun z=>(GC p.1 z).2.2.2 p hp rfl;exact#[keep p.1 p.2 ne nf Xc e n,free p.1 p.2 Xc e n,ne,nf,d]
def cB.un (I:cB X pins σ H s) (u:Un X.fs [] H H' s.heap h') (hok:sG X.prog X.w H' h'):cB X pins σ H' {s with heap:=h',toks:=t'}:=by
 obtain⟨m,⟨o,es,ep,ho,r⟩,_⟩:=id I.loc;obtain⟨sl,hL⟩:=u.any ho I.free `S';exact I.step (ch:=[]) `bv' (fun b o _ hb _ e n=>u.keep b o e n hb `S') (fun b o _ hb _ e n=>u.slot b o e n hb `S') (fun b o _ e n=>u.free b o e n `S') (fun b o _ e=>u.there b o e `S') u.tups u.frzs u.tbls (fun m' hm=>by
  obtain⟨o',es',ep',MO,r'⟩:=hm;rw[ho] at MO;cases MO;exact#[_,es',ep',hL,r']) hok I.bare
def cB.call (I:cB X pins σ H s) (u:Un (Ig X.stack) ch H H' s.heap h') (hok:sG X.prog X.w H' h') (hg:AllBare g')
 (GC:∀b∈ch,`de'/\b≠X.env.locals/\(∀x c,X.env.cells.lookup x=some c->c≠b)/\∀p∈X.pn++pins,p.1≠b):
 cB X pins σ H' {s with heap:=h',gens:=g',drawn:=d',toks:=t'}:=by
 obtain⟨m,⟨o,es,ep,ho,r⟩,_⟩:=id I.loc;obtain⟨sl,hL⟩:=u.any ho I.free fun z=>(GC _ z).2.1 rfl;exact I.step GC (fun b o hL hb hc e n=>u.keep b o e n (fun z=>(bh.mp (I.stkSub b z)).elim hL hb) hc) (fun b o _ _ hc e n=>u.any e n hc) (fun b o hc e n=>u.free b o e n hc) (fun b o hc e=>u.there b o e hc) u.tups u.frzs u.tbls (fun m' hm=>by
  obtain⟨o',es',ep',MO,r'⟩:=hm;rw[ho] at MO;cases MO;exact#[_,es',ep',hL,r']) hok hg
def cB.turned {it:ak} (I:cB X pins σ H s) (k:∀b o,b≠it->s.heap.get? b=some o->h'.get? b=some o) (hn:H it=none) (hL:it≠X.env.locals)
 (h1:it∈X.ex\/X.s_0.heap.objs.size<=it) (h2:∀x c,X.env.cells.lookup x=some c->c≠it) (h3:∀p∈X.pn++pins,p.1≠it):cB X pins σ H {s with heap:=h',toks:=t'}:=by
 have Td:∀b u,H b=some u->b≠it:=fun b u e z=>by rw[z,hn] at e;cases e
 refine I.step (ch:=[it]) (fun b hb=>?_) (fun b o _ _ hc e _=>k b o `an' e) (fun b o _ _ hc e _=>#[o.slots,k b o `an' e]) (fun _ _ _ _ n=>n)
  (fun b o hc e=>#[o,k b o `an' e]) (fun _ _ e=>e) (fun _ _ _ e=>e) `k4' `k5' `j7' I.bare
 ·show 53
  subst e;exact#[h1,hL,h2,h3]
 ·show 156;exact#[o,es,ep,k _ o (je hL) ho,r]
 ·show 171
  ·rw[z];exact Td b u e
  ·exact Td c _ z
def cB.tok (I:cB X pins σ H s) (t:Nat):cB X pins σ H {s with toks:=t}:=I.un Un.refl I.hok
def cB.kept (I:cB X pins σ H s) (k:∀b u,s.heap.get? b=some u->h'.get? b=some u):cB X pins σ H {s with heap:=h',toks:=t'}:=I.un (Un.kept k) (I.hok.kept k)
def cB.laid (I:cB X pins σ H s) (k:∀b u,s.heap.get? b=some u->h'.get? b=some u) (hp:s.heap.objs.size<=a) (new:kW X.prog X.w `jb' h' a o):
 cB X pins σ `jb' {s with heap:=h',toks:=t'}:=I.un (Un.laid k hp (I.hok.fresh hp)) (I.hok.laid k hp new)
def cB.write (I:cB X pins σ H s) (mu:Z7 (H x)) (he:e=x\/H e=some `i3') (k:∀b u,b≠e->s.heap.get? b=some u->h'.get? b=some u) (WE:∃u,h'.get? e=some u)
 (new:kW X.prog X.w `nl' h' x o):cB X pins σ `nl' {s with heap:=h',toks:=t'}:=I.un (Un.write mu he k WE) (I.hok.write mu he k WE new)
def cB.weak (I:cB X pins σ H s) (hl:σ'.length=σ.length) (w:∀(i:Nat) v,σ'[i]? =some `eG'->σ[i]? =some `eG'):cB X pins σ' H s:=
 #[I.ok,I.os,I.bare,I.base,let⟨m,hn,sJ⟩:=I.loc;#[m,hn,fun i x v e1 e2 e3=>sJ i x v e1 (w i v e2) e3],I.cell,I.free,I.freeC,I.pin,I.hok,hl.trans I.len]
def cB.pins_of (I:cB X pins σ H s) (h:∀p∈pins',s.heap.get? p.1=some p.2/\H p.1=none/\p.1≠X.env.locals/\p.1∉X.fs/\∀v,p.2.data≠ .cell v):cB X pins' σ H s:=
 #[I.ok,I.os,I.bare,I.base,I.loc,I.cell,I.free,I.freeC,fun p hp=>(eN.mp hp).elim (fun z=>I.pin p (eI _ z)) (h p),I.hok,I.len]
def yL {N:List Str} (hN:N.Nodup) {i j:Nat} (a:N[i]? =some x) (b:N[j]? =some x):i=j:=by
 show 111
def Cd {E:aA->aS->Prop} (I:cB X pins σ H s) (hN:X.N.Nodup) (hi:X.N[i]? =some x) (hx:VU X.env.scope x) (r:ff v u)
 (h:∀s',cB X pins (σ.set i `eG') H s'->(∃a,Heap.SameBut a s.heap s'.heap/\(a=X.env.locals\/X.env.cells.lookup x=some a))->Q () s') (hf:X.fn x=true\/X.env.scope.names.lookup x=some .local:=by first|exact .inl rfl|exact .inr rfl|assumption):wpAny M A (storeName X.env x u) Q E s:=by
 obtain⟨m,hn,hl⟩:=id I.loc;have abN:(X.env.scope.kind== .class||(X.env.scope.kind== .module&&X.env.locals != X.env.globals))=false:=by rw[I.ok.kind];rfl
 have hiσ:i<σ.length:=by rw[I.len];exact(bd.mp hi).1
 have cne:=I.cne;have Jj:∀{a:ak} {h':cZ},(∃o,s.heap.get? a=some o/\H a=none)->Heap.SameBut a s.heap h'->sG X.prog X.w H h':=fun{a h'} ha hs b ob e=>by
  obtain⟨_,_,kI⟩:=ha;refine(I.hok b ob e).stay (fun c w' hc q=>(hs.2 c ?_).trans q) `nr' fun _ _ q=>q;rintro rfl;rcases hc with rfl|hc
  ·rw[kI] at e;cases e
  ·rw[kI] at hc;cases hc
 rcases hx with hk|hk
 ·refine wpAny_storeName_local hk hn (fun h' hn' hs=>?_) abN;obtain⟨oL,_,_,hoL,_⟩:=id hn;refine h _ #[I.ok,I.os,I.bare,`cy',#[_,hn',fun j y v' e1 e2 e3=>?_],fun y c e=>?_,I.free,I.freeC,fun p hp=>?_,Jj #[oL,hoL,I.free] hs,by simpa using I.len] #[_,hs,.inl rfl]
  ·exact(hs.2 b (cF `f4')).trans `g1'
  ·show 122;exact#[sl,(hs.2 b (cF `f4')).trans e1]
  ·show 77;exact#[o',(hs.2 b (cF `f4')).trans e1]
  ·by_cases hj:j=i
   ·show 214;exact#[u,r,.inl #[hk,by simp]]
   ·show 132;rcases q with⟨k,e⟩| ⟨k,c,e,z⟩
    ·refine .inl #[k,?_];have:y≠x:=fun e=>hj (yL hN e1 (e▸hi));simp[this,e]
    ·exact .inr #[k,c,e,z.sameBut hs (cne y c e)]
  ·obtain⟨w',z⟩:=I.cell y c e;exact#[w',z.sameBut hs (cne y c e)]
  ·show 182;exact#[(hs.2 p.1 ne).trans e,n,ne,nf,d]
 ·have En:X.fn x=true:=by
   rcases hf with z|z
   ·exact z
   ·rw[z] at hk;cases hk
  obtain⟨c,hc⟩:=I.ok.has x (.inl hk);obtain⟨w',z⟩:=I.cell x c hc;refine wpAny_storeName_cell I.ok.kind hk hc z (fun h' hc' hs=>?_);obtain⟨oc,QM,MZ⟩:=id z;refine h {s with heap:=h'} #[I.ok,I.os,I.bare,`cy',#[m,hn.sameBut hs (je (cne x c hc)),fun j y v' e1 e2 e3=>?_],fun y c' e=>?_,I.free,I.freeC,fun p hp=>?_,Jj #[oc,QM,I.freeC x c hc] hs,by simpa using I.len] #[c,hs,.inr hc]
  ·exact(hs.2 b `eQ').trans `g1'
  ·show 122;exact#[sl,(hs.2 b `eQ').trans e1]
  ·show 77;exact#[o',(hs.2 b `eQ').trans e1]
  ·by_cases hj:j=i
   ·show 214;exact#[u,r,.inr #[.inl hk,c,hc,hc']]
   ·show 132;rcases q with q| ⟨k,c',e,z'⟩
    ·exact .inl q
    ·refine .inr #[k,c',e,z'.sameBut hs ?_];rintro rfl;exact hj (yL hN e1 (I.ok.inj _ _ _ e hc▸hi))
  ·by_cases ye:c'=c
   ·subst ye;exact#[_,hc']
   ·obtain⟨w2,z2⟩:=I.cell y c' e;exact#[w2,z2.sameBut hs ye]
  ·show 182;refine#[(hs.2 p.1 ?_).trans e,n,ne,nf,d];intro q;rw[q,QM] at e;have q':=aP e;exact d w' (by rw[<-q'];exact MZ)
def tz (I:cB X pins σ H s) (hN:X.N.Nodup) (hi:X.N[i]? =some x) (hx:VU X.env.scope x) (r:ff v u)
 (h:∀s',cB X pins (σ.set i `eG') H s'->Q () s') (hf:X.fn x=true\/X.env.scope.names.lookup x=some .local:=by first|exact .inl rfl|exact .inr rfl|assumption):wpAny M A (storeName X.env x u) Q E s:=
 Cd I hN hi hx r (fun s' I' _=>h s' I') hf
def cB.call' (I:cB X pins σ H s) (ho:s'.os=s.os) (u:Un (Ig X.stack) ch H H' s.heap s'.heap) (hok:sG X.prog X.w H' s'.heap) (hg:AllBare s'.gens)
 (GC:∀b∈ch,`de'/\b≠X.env.locals/\(∀x c,X.env.cells.lookup x=some c->c≠b)/\∀p∈X.pn++pins,p.1≠b):cB X pins σ H' s':=by
 obtain⟨h',g',d',t',o'⟩:=s';have e:=ho;subst e;exact I.call u hok hg GC
end
abbrev XK:=aA->Option ak->Hp->Prop
abbrev St:=List (Option V)
abbrev VK:=V->Hp->Prop
abbrev TE:=St->Hp->VK->Prop
abbrev TT:=St->Hp->(Bool->Hp->Prop)->Prop
abbrev TA:=St->Hp->(List V->Hp->Prop)->Prop
structure Dt where
 nx:St->Hp->Prop
 rt:VK
 bk:St->Hp->Prop:=fun _ _=>False
 ct:St->Hp->Prop:=fun _ _=>False
abbrev TS:=Dt->St->Hp->Prop
def EP (X:Cx) (pins:List `cQ') (σ:St) (Q:VK) (u:aA) (s':aS):Prop:=∃v H',cB X pins σ H' s'/\ff v u/\Q v H'
def TP (X:Cx) (pins:List `cQ') (σ:St) (Q:Bool->Hp->Prop) (b:Bool) (s':aS):Prop:=∃H',cB X pins σ H' s'/\Q b H'
def AP (X:Cx) (pins:List `cQ') (σ:St) (Q:List V->Hp->Prop) (us:List aA) (s':aS):Prop:=∃vs H',cB X pins σ H' s'/\dy vs us/\Q vs H'
def SP (X:Cx) (pins:List `cQ') (D:Dt) (f:Flow) (s':aS):Prop:=
 match f with
 | .next=>∃σ' H',cB X pins σ' H' s'/\D.nx σ' H'
 | .brk=>∃σ' H',cB X pins σ' H' s'/\D.bk σ' H'
 | .cont=>∃σ' H',cB X pins σ' H' s'/\D.ct σ' H'
 | .ret u=>∃v σ' H',cB X pins σ' H' s'/\ff v u/\D.rt v H'
def PE (X:Cx) (e:Expr) (t:TE):Prop:=
 ∀(pins:List (ak×Obj)) (s:aS) (σ:St) (H:Hp) (Q:VK),cB X pins σ H s->t σ H Q->wpAny `Tm X.A `kZ' `bg' X.xe s
def PT (X:Cx) (e:Expr) (t:TT):Prop:=
 ∀(pins:List (ak×Obj)) (s:aS) (σ:St) (H:Hp) (Q:Bool->Hp->Prop),cB X pins σ H s->t σ H Q->wpAny `Tm X.A (isTrue e X.env `kZ') `nj' X.xe s
def PW (X:Cx) (e:Expr) (t:TT):Prop:=
 ∀(whole:Sem aA) (pins:List (ak×Obj)) (s:aS) (σ:St) (H:Hp) (Q:Bool->Hp->Prop),cB X pins σ H s->t σ H Q->wpAny `Tm X.A (isTrue e X.env whole) `nj' X.xe s
def PW.pt (h:PW X e t):PT X e t:=h _
def PA (X:Cx) (es:List Expr) (t:TA):Prop:=
 ∀(pos:Pos) (pins:List (ak×Obj)) (s:aS) (σ:St) (H:Hp) (Q:List V->Hp->Prop),cB X pins σ H s->t σ H Q->wpAny `Tm X.A (spliced (backTo pos `a0')) (AP X pins σ Q) X.xe s
def PS (X:Cx) (st:du) (t:TS):Prop:=
 ∀(pins:List (ak×Obj)) (s:aS) (σ:St) (H:Hp) (D:Dt),cB X pins σ H s->t D σ H->wpAny `Tm X.A (exec st X.env) (SP X pins D) X.xe s
def Hl (X:Cx) (st:List du) (t:TS):Prop:=
 ∀(pins:List (ak×Obj)) (s:aS) (σ:St) (H:Hp) (D:Dt),cB X pins σ H s->t D σ H->wpAny `Tm X.A (execs st X.env) (SP X pins D) X.xe s
def iH {α:Type} {t:Sem α} {Q Q':α->aS->Prop} (h:wpAny M A t Q E s) (hQ:∀a s,Q a s->Q' a s):wpAny M A t Q' E s:=fH h hQ fun _ _ x=>x
section
variable {X:Cx}
def bin (ha:PE X a ta) (hb:PE X b tb) {pins:List `cQ'} {R:V->V->Hp->Prop} (I:cB X pins σ H s) (h:ta σ H fun x H1=>tb σ H1 fun y H2=>R x y H2)
 {α:Type} {Q:α->aS->Prop} {f:aA->aA->Sem α}
 (hf:∀v u s2 x y H2,cB X pins σ H2 s2->ff x v->ff y u->R x y H2->wpAny `Tm X.A (f v u) Q X.xe s2):
 wpAny `Tm X.A (eval a X.env) (fun v s₁=>wpAny `Tm X.A (eval b X.env) (fun u s₂=>wpAny `Tm X.A (f v u) Q X.xe s₂) X.xe s₁) X.xe s:=by
 show 31
def oX (i:Nat):TE:=fun σ H Q=>∃v,σ[i]? =some `eG'/\Q v H
def tC (v:V):TE:=fun _ H Q=>Q v H
def Ho {i:Nat} {x:Str} {pos:Pos} (hN:X.N[i]? =some x) (hv:Uc X.env.scope x) (hd:`az'=false:=by decide) (xr:`dy'=false:=by decide):PE X `hb' (oX i):=by
 show 3;obtain⟨v,e,h⟩:=h;show 120;obtain⟨u,r,l⟩:=hl i x v hN e hv;have oH:EP X pins σ Q u s:=#[v,H,I,r,h]
 rcases l with⟨hk,hm⟩| ⟨hk,c,hc,vc⟩
 ·exact wpAny_Name (wpAny_loadName_local I.ok.kind hk hn hm oH) hd
 ·rcases hk with hk|hk
  ·exact wpAny_Name (wpAny_loadName_cell I.ok.kind hk hc vc oH) hd
  ·exact wpAny_Name (wpAny_loadName_free I.ok.kind hk hc vc oH xr) hd
def aC {i j pos}:PE X (.Constant (.int i) j pos) (tC (.int i)):=fun _ _ _ H _ I h=>wpAny_Constant_int #[.int i,H,I.tok _,`dQ',h]
def ZR {b j pos}:PE X (.Constant (.bool b) j pos) (tC (.bl b)):=fun _ _ _ H _ I h=>Constant_bool #[.bl b,H,I,rfl,h]
def iU {j pos}:PE X (.Constant .none j pos) (tC .non):=fun _ _ _ H _ I h=>Constant_none #[.non,H,I,rfl,h]
def Gl (X:Cx) (x:Str):Prop:=X.env.kindOf x=some .globalImplicit
def vt {pins:List `cQ'} {s:aS} {Q:aA->aS->Prop} (I:cB X pins σ H s) (hg:Gl X x) (hm:X.mg x=some u) (h:Q u s)
 (hd:`az'=false:=by decide):wpAny `Tm X.A (eval `hb' X.env) Q E s:=
 Calls.Name_function_global I.ok.kind hg (Calls.loadGlobal_global `hQ' hm h) hd
def mT {pins:List `cQ'} {s:aS} {Q:aA->aS->Prop} (I:cB X pins σ H s) (hg:Gl X x) (hm:X.mg x=none) (hv:bootBuiltins x=some u) (h:Q u s)
 (hn:x≠"__name__":=by decide) (hd:`az'=false:=by decide):wpAny `Tm X.A (eval `hb' X.env) Q E s:=by
 obtain⟨mb,h1,h2⟩:=I.mod.blt;exact Calls.Name_function_global I.ok.kind hg (Calls.loadGlobal_builtin `hQ' hm (by rw[I.ok.blt];exact h1.keeps I.bk) ((h2 x hn).trans hv) h) hd
def bQ {x:Str} {v:V} {pos:Pos} (hg:Gl X x) (hm:X.mg x=some u) (r:ff v u) (hd:`az'=false:=by decide):PE X `hb' (tC v):=
 fun _ _ _ H _ I h=>vt I hg hm #[v,H,I,r,h] hd
def t2I (ta tb:TE) (k:Int->Int->Hp->Prop):St->Hp->Prop:=fun σ H=>ta σ H fun x H1=>tb σ H1 fun y H2=>∃i j,x= .int i/\y= .int j/\k i j H2
variable {a b:Expr} {ta tb:TE} {pos:Pos}
def PC (X:Cx) (op:CmpOp) (a b:Expr) (t:TE):Prop:=
 ∀(pins:List (ak×Obj)) (s:aS) (σ:St) (H:Hp) (Q:VK),cB X pins σ H s->t σ H Q->
  wpAny `Tm X.A (eval a X.env) (fun v s₁=>wpAny `Tm X.A (eval b X.env) (fun u s₂=>wpAny `Tm X.A (compareOp op v u) `bg' X.xe s₂) X.xe s₁) X.xe s
def E8 (b:Expr) {op:CmpOp} (h:op≠ .In) (h2:op≠ .NotIn):behindInMarks op b=false:=by
 have e1:(op==CmpOp.In)=false:=by cases op<;>first|rfl|exact absurd rfl h
 have e2:(op==CmpOp.NotIn)=false:=by cases op<;>first|rfl|exact absurd rfl h2
 cases b<;>simp[behindInMarks,e1,e2]
def IQ (p:Int->Int->Bool) (ta tb:TE):TE:=fun σ H Q=>t2I ta tb (fun i j H2=>Q (.bl (p i j)) H2) σ H
abbrev tLt:TE->TE->TE:=IQ fun i j=>decide (i<j)
abbrev tLe:TE->TE->TE:=IQ fun i j=>decide (i<=j)
abbrev tGt:TE->TE->TE:=IQ fun i j=>decide (j<i)
abbrev tGe:TE->TE->TE:=IQ fun i j=>decide (j<=i)
abbrev acq:TE->TE->TE:=IQ fun i j=>decide (i=j)
abbrev ab7:TE->TE->TE:=IQ fun i j=> !decide (i=j)
def wY {op:CmpOp} (ha:PE X a ta) (hb:PE X b tb)
 (rule:∀(i j:Int) (t u:Tok) (Q:aA->aS->Prop) (s:aS),Q (.bool (p i j)) s->wpAny `Tm X.A (compareOp op `kN' (.int j u)) Q X.xe s):PC X op a b (IQ p ta tb):=by
 show 3;refine bin ha hb I h fun v u s2 x y H2 I2 rx ry q=>?_;obtain⟨i,j,rfl,rfl,q⟩:=q;show 123;exact rule i j t t' _ s2 #[.bl _,H2,I2,rfl,q]
def v0 (ha:PE X a ta) (hb:PE X b tb):PC X .Lt a b (tLt ta tb):=wY ha hb fun _ _ _ _ _ _ h=>lt_int h
def JC (ha:PE X a ta) (hb:PE X b tb):PC X .LtE a b (tLe ta tb):=wY ha hb fun _ _ _ _ _ _ h=>le_int h
def fq (ha:PE X a ta) (hb:PE X b tb):PC X .Gt a b (tGt ta tb):=wY ha hb fun _ _ _ _ _ _ h=>gt_int h
def sO (ha:PE X a ta) (hb:PE X b tb):PC X .GtE a b (tGe ta tb):=wY ha hb fun _ _ _ _ _ _ h=>ge_int h
def da (ha:PE X a ta) (hb:PE X b tb):PC X .Eq a b (acq ta tb):=wY ha hb fun _ _ _ _ _ _ h=>eq_int (by rw[Bool.beq_eq_decide_eq];exact h)
def l8 (ha:PE X a ta) (hb:PE X b tb):PC X .NotEq a b (ab7 ta tb):=wY ha hb fun _ _ _ _ _ _ h=>ne_int (by rw[bne,Bool.beq_eq_decide_eq];exact h)
def acn (ta:TE):TE:=fun σ H Q=>ta σ H fun x H1=>Q (.bl (decide (x= .non))) H1
def ZF (ta:TE):TE:=fun σ H Q=>ta σ H fun x H1=>Q (.bl (!decide (x= .non))) H1
def ff.none_iff {x:V} (r:ff x v):(v==Value.none)=decide (x= .non):=by
 cases x with
 |non=>cases r;rfl
 |bl _=>cases r;rfl
 |int _=>obtain⟨t,rfl⟩:=r;rfl
 |str _=>obtain⟨t,rfl⟩:=r;rfl
 |byt _=>obtain⟨t,rfl⟩:=r;rfl
 |flt _=>obtain⟨t,rfl⟩:=r;rfl
 |ref _=>cases r;rfl
 |ty _=>cases r;rfl
def AV {j wq} (ha:PE X a ta):PC X .Is a (.Constant .none j wq) (acn ta):=by
 show 3;refine iH `aZ' fun v s1 ⟨x,H1,I1,r1,q1⟩=>?_;exact Constant_none (is_none_gen `iV')
def SN {j wq} (ha:PE X a ta):PC X .IsNot a (.Constant .none j wq) (ZF ta):=by
 show 3;refine iH `aZ' fun v s1 ⟨x,H1,I1,r1,q1⟩=>?_;exact Constant_none (isnot_none_gen `iV')
def tB (t:TE):TT:=fun σ H Q=>t σ H fun x H1=>∃c,x= .bl c/\Q c H1
def mn {t:TE} (h:PC X op a b t) (h1:behindInMarks op b=false:=by first|exact E8 _ `KK `KK|rfl):PE X (.Compare a [op] [b] pos) t:=fun pins s σ H Q I hw=>wpAny_Compare1 `jh' h1
def bb {t:TE} (h:PC X op a b t) (h1:behindInMarks op b=false:=by first|exact E8 _ `KK `KK|rfl):PT X (.Compare a [op] [b] pos) (tB t):=by
 intro pins s σ H Q I hw;refine wpAny_isTrue_Compare1 (iH `ji' fun v s1 h1=>iH h1 fun u s2 h2=>iH h2 fun c s3 ⟨x,H1,I1,r1,q1⟩=>?_) h1;obtain⟨d,rfl,q⟩:=q1;cases r1;exact ke #[H1,I1,q]
def Ir {t:TE} (h:PE X e t) (he:∀whole,isTrue e X.env whole=(do let v<-whole;standAt e.pos;holding [v] (truthy v)):=by intro _;rfl):PT X e (tB t):=by
 intro pins s σ H Q I hw;refine isTrue_plain (iH `ji' fun v s1 ⟨x,H1,I1,r1,q1⟩=>?_) (he _);obtain⟨d,rfl,q⟩:=q1;cases r1;exact ke #[H1,I1,q]
variable {tA tB':TT} {rest:List Expr}
def acz (t u:TT):TT:=fun σ H Q=>t σ H fun c H1=>if c=true then u σ H1 Q else Q false H1
def tOr (t u:TT):TT:=fun σ H Q=>t σ H fun c H1=>if c=true then Q true H1 else u σ H1 Q
def acg (t:TT):TT:=fun σ H Q=>t σ H fun c H1=>Q (!c) H1
def Kg (ha:PT X a tA):PW X (.BoolOp .And [a] pos) tA:=by
 show 178;refine isTrue_and `iQ';cases c with
 |true=>exact isTrue_and_nil e
 |false=>exact e
def j7 (ha:PT X a tA):PW X (.BoolOp .Or [a] pos) tA:=by
 show 178;refine isTrue_or `iQ';cases c with
 |false=>exact isTrue_or_nil e
 |true=>exact e
def Qg (ha:PT X a tA) (hb:PW X `m3' tB'):PW X `lY' (acz tA tB'):=by
 show 178;refine isTrue_and (iH `aZ' fun c s1 ⟨H1,I1,q1⟩=>?_);cases c with
 |true=>exact hb wh pins s1 σ H1 Q I1 q1
 |false=>exact#[H1,I1,q1]
def jv (ha:PT X a tA) (hb:PW X `nH' tB'):PW X `mr' (tOr tA tB'):=by
 show 178;refine isTrue_or (iH `aZ' fun c s1 ⟨H1,I1,q1⟩=>?_);cases c with
 |true=>exact#[H1,I1,q1]
 |false=>exact hb wh pins s1 σ H1 Q I1 q1
def Vh (ha:PT X a tA):PT X (.UnaryOp .Not a pos) (acg tA):=by
 show 3;exact isTrue_not (ha pins s σ H (fun c H1=>Q (!c) H1) I h)
def ZN (ta tb:TE):TE:=fun σ H Q=>ta σ H fun x H1=>∃c,x= .bl c/\if c=true then tb σ H1 Q else Q (.bl false) H1
def ace (ta tb:TE):TE:=fun σ H Q=>ta σ H fun x H1=>∃c,x= .bl c/\if c=true then Q (.bl true) H1 else tb σ H1 Q
def Dl {op} {t:TE} (h:PE X a t):PE X (.BoolOp op [a] pos) t:=fun pins s σ H Q I hw=>BoolOp_one `jh'
def N2 (ha:PE X a ta) (hb:PE X `m3' tb):PE X `lY' (ZN ta tb):=by
 show 3;refine BoolOp_and (iH `aZ' fun v s1 ⟨x,H1,I1,r1,q1⟩=>?_);obtain⟨c,rfl,q1⟩:=q1;cases r1;refine ke ?_;cases c with
 |true=>exact hb pins s1 σ H1 Q I1 q1
 |false=>exact#[.bl false,H1,I1,rfl,q1]
def T5 (ha:PE X a ta) (hb:PE X `nH' tb):PE X `mr' (ace ta tb):=by
 show 3;refine BoolOp_or (iH `aZ' fun v s1 ⟨x,H1,I1,r1,q1⟩=>?_);obtain⟨c,rfl,q1⟩:=q1;cases r1;refine ke ?_;cases c with
 |false=>exact hb pins s1 σ H1 Q I1 q1
 |true=>exact#[.bl true,H1,I1,rfl,q1]
def tIf (t:TT) (ta tb:TE):TE:=fun σ H Q=>t σ H fun c H1=>if c=true then ta σ H1 Q else tb σ H1 Q
def Am {c:Expr} (hc:PT X c tA) (ha:PE X a ta) (hb:PE X b tb):PE X (.IfExp c a b pos) (tIf tA ta tb):=by
 show 3;refine wpAny_IfExp `gv';cases d with
 |true=>exact ha pins s1 σ H1 Q I1 q1
 |false=>exact hb pins s1 σ H1 Q I1 q1
end
def SqL (K:ai) (H:Hp) (a:ak) (xs:List V):Prop:=
 Rd H a `bh'\/
  ∃(o:Obj) (its:Array aA) (n:Nat),K.lookup a=some o/\o.cls= .type "list"/\o.dict=none/\o.data= .seq its n/\its.size<=sizeLine/\dy xs its.toList
def iX (K:ai) (H:Hp) (a:ak) (xs:List V):Prop:=
 Rd H a `cd'\/
  ∃(o:Obj) (its:Array aA) (n:Nat),K.lookup a=some o/\o.cls= .type "tuple"/\o.data= .seq its n/\its.size<=sizeLine/\dy xs its.toList
def acD:aA->Option V
 | .none=>some .non
 | .bool b=>some (.bl b)
 | .int i _=>some (.int i)
 | .str x _=>some (.str x)
 | .bytes b _=>some (.byt b)
 | .float b _=>some (.flt b)
 | .ref a=>some `bu'
 | .type n=>some (.ty n)
 |_=>none
def ff.abs {x:V} (r:ff x u):acD u=some x:=by
 cases x with
 |non=>cases r;rfl
 |bl _=>cases r;rfl
 |int _=>obtain⟨t,rfl⟩:=r;rfl
 |str _=>obtain⟨t,rfl⟩:=r;rfl
 |byt _=>obtain⟨t,rfl⟩:=r;rfl
 |flt _=>obtain⟨t,rfl⟩:=r;rfl
 |ref _=>cases r;rfl
 |ty _=>cases r;rfl
def ff.inj {x y:V} (r:ff x u) (q:ff y u):x=y:=aP (r.abs.symm.trans q.abs)
def dy.inj:∀{xs ys:List V} {us:List aA},dy xs us->dy ys us->xs=ys
 |_,_,_,.nil,.nil=>rfl
 |_,_,_,.cons r t,.cons r' t'=>by rw[r.inj r',dy.inj t t']
section
variable {X:Cx} {pins:List (ak×Obj)} {σ:St} {H:Hp} {s:aS} {a:ak} {xs ys:List V}
def SqL.of {K:ai} (h:H a=some `bh'):SqL K H a xs:=.inl (.inl h)
def iX.of {K:ai} (h:H a=some `cd'):iX K H a xs:=.inl (.inl h)
def cB.list (I:cB X pins σ H s) (h:SqL X.K H a xs):∃its:List aA,dy xs its/\PlainL s.heap a its.toArray/\xs.length<=sizeLine:=by
 rcases h with h| ⟨o,its,n,hk,hc,hd,hs,hz,r⟩
 ·obtain⟨z,its,n,r,e⟩:=h.ok I.hok;exact#[its,r,#[_,n,e,rfl,rfl,rfl],z]
 ·refine#[its.toList,r,#[o,n,I.kIn a o hk,hc,hd,by simpa using hs],?_];have e:=r.length;simp only[cU] at e;omega
def cB.tuple (I:cB X pins σ H s) (h:iX X.K H a xs):∃its:List aA,dy xs its/\IsTup s.heap a its.toArray/\xs.length<=sizeLine:=by
 rcases h with h| ⟨o,its,n,hk,hc,hs,hz,r⟩
 ·obtain⟨z,its,r,p⟩:=h.ok I.hok;exact#[its,r,p,z]
 ·refine#[its.toList,r,#[o,I.kIn a o hk,hc,n,by simpa using hs],?_];have e:=r.length;simp only[cU] at e;omega
def cB.list_inj (I:cB X pins σ H s) (h:SqL X.K H a xs) (h':SqL X.K H a ys):xs=ys:=by
 obtain⟨its,r,⟨o,n,e,_,_,d⟩,_⟩:=I.list h;obtain⟨its',r',⟨o',n',e',_,_,d'⟩,_⟩:=I.list h';show 224
 have:its=its':=by simpa using dH Array.toList d1
 subst this;exact r.inj r'
def cB.tuple_inj (I:cB X pins σ H s) (h:iX X.K H a xs) (h':iX X.K H a ys):xs=ys:=by
 obtain⟨its,r,⟨o,e,_,n,d⟩,_⟩:=I.tuple h;obtain⟨its',r',⟨o',e',_,n',d'⟩,_⟩:=I.tuple h';show 224
 have:its=its':=by simpa using dH Array.toList d1
 subst this;exact r.inj r'
end
abbrev Cx.wish (X:Cx) (E:aA->aS->Prop):Cx:={X with xe:=E}
abbrev Cx.nox (X:Cx):Cx:=X.wish fun _ _=>False
def Cx.Ok.wish {X:Cx} (ok:X.Ok) (E:aA->aS->Prop):(X.wish E).Ok:=
 #[ok.mod,ok.kind,ok.glob,ok.blt,ok.above,ok.inj,ok.has,ok.cab,ok.hd,ok.frames,ok.stk,ok.exf,ok.bs,ok.bsz,ok.noex,ok.exfs,ok.funs,ok.frf]
def Cx.Ok.unwish {X:Cx} (ok:(X.wish E).Ok):X.Ok:=
 #[ok.mod,ok.kind,ok.glob,ok.blt,ok.above,ok.inj,ok.has,ok.cab,ok.hd,ok.frames,ok.stk,ok.exf,ok.bs,ok.bsz,ok.noex,ok.exfs,ok.funs,ok.frf]
section
variable {X:Cx} {pins:List (ak×Obj)} {σ:St} {H:Hp} {s:aS} {E:aA->aS->Prop}
def cB.wish (I:cB X pins σ H s) (E:aA->aS->Prop):cB (X.wish E) pins σ H s:=#[I.ok.wish E,I.os,I.bare,I.base,I.loc,I.cell,I.free,I.freeC,I.pin,I.hok,I.len]
def cB.unwish (I:cB (X.wish E) pins σ H s):cB X pins σ H s:=#[I.ok.unwish,I.os,I.bare,I.base,I.loc,I.cell,I.free,I.freeC,I.pin,I.hok,I.len]
def SP.unwish (h:SP (X.wish E) pins D f s'):SP X pins D f s':=by
 cases f with
 |next=>obtain⟨σ',H',I,q⟩:=h;exact `kf'
 |brk=>obtain⟨σ',H',I,q⟩:=h;exact `kf'
 |cont=>obtain⟨σ',H',I,q⟩:=h;exact `kf'
 |ret u=>obtain⟨v,σ',H',I,r,q⟩:=h;exact#[v,σ',H',I.unwish,r,q]
def Hl.nox {st:List du} (h:Hl X.nox st t):Hl X st t:=fun pins s σ H D I hw=>
 fH (h pins s σ H D (I.wish _) hw) (fun _ _ q=>q.unwish) fun _ _ z=>False.elim z
end
section
variable {X:Cx} {st:du} {rest:List du} {t u:TS} {e:Expr} {te:TE} {pos:Pos}
def TZ:TS:=fun D σ H=>D.nx σ H
def Z5 (t u:TS):TS:=fun D σ H=>t {D with nx:=u D} σ H
def br:Hl X [] TZ:=fun _ _ σ H _ I h=>om #[σ,H,I,h]
def am (h1:PS X st t) (h2:Hl X rest u):Hl X (st::rest) (Z5 t u):=by
 show 13;refine wpAny_execs_cons (iH (h1 pins s σ H {D with nx:=u D} I h) fun f s1 q=>?_);cases f with
 |next=>
  obtain⟨σ',H',I',q⟩:=q;exact h2 pins s1 σ' H' D I' q
 |ret v=>exact q
 |brk=>exact q
 |cont=>exact q
def aG (h1:PS X st t):Hl X [st] t:=by
 show 13;refine wpAny_execs_cons (iH (h1 pins s σ H D I h) fun f s1 q=>?_);cases f with
 |next=>exact om q
 |ret v=>exact q
 |brk=>exact q
 |cont=>exact q
def cB.quiet (I:cB X pins σ H s):interactive X.env=false:=by simp[interactive,I.ok.kind]
def TW (te:TE):TS:=fun D σ H=>te σ H fun _ H1=>D.nx σ H1
def gZ (he:PE X e te) (hs:swapsWith e none pos.line X.env=pure false:=by rfl):PS X (.Expr e pos) (TW te):=by
 show 13;exact wpAny_Expr_any (iH `bQ' fun v s1 ⟨x,H1,I1,r1,q1⟩=>#[σ,H1,I1,q1]) I.quiet hs
def Vp (te:TE):TS:=fun D σ H=>te σ H D.rt
def aY (he:PE X e te):PS X (.Return (some e) pos) (Vp te):=by
 show 13;exact wpAny_Return_some (iH `bQ' fun v s1 ⟨x,H1,I1,r1,q1⟩=>#[x,σ,H1,I1,r1,q1])
def aaD (c:TT) (t u:TS):TS:=fun D σ H=>c σ H fun b H1=>if b=true then t D σ H1 else u D σ H1
def cC (hc:PT X c tc) (ha:Hl X a t) (hb:Hl X b u):PS X (.If c a b pos) (aaD tc t u):=by
 show 13;refine wpAny_If `gv';cases d with
 |true=>exact ha pins s1 σ H1 D I1 q1
 |false=>exact hb pins s1 σ H1 D I1 q1
end
abbrev TG:=V->St->Hp->(St->Hp->Prop)->Prop
abbrev TGs:=List V->St->Hp->(St->Hp->Prop)->Prop
def PG (X:Cx) (CW:Expr) (t:TG):Prop:=
 ∀(pins:List (ak×Obj)) (s:aS) (σ:St) (H:Hp) (v:V) (u:aA) (Q:St->Hp->Prop),cB X pins σ H s->ff v u->t v σ H Q->
  wpAny `Tm X.A (assign CW X.env u) `gW' X.xe s
def PGs (X:Cx) (ts:List Expr) (t:TGs):Prop:=
 ∀(pins:List (ak×Obj)) (s:aS) (σ:St) (H:Hp) (vs:List V) (us:List aA) (Q:St->Hp->Prop),cB X pins σ H s->dy vs us->t vs σ H Q->
  wpAny `Tm X.A (assignInOrder ((assignEach ts X.env).map (·.2)) us) `gW' X.xe s
abbrev ZL:=V->V->V->Hp->(Hp->Prop)->Prop
def aaF (X:Cx) (t:ZL):Prop:=
 ∀(pins:List (ak×Obj)) (s:aS) (σ:St) (H:Hp) (o i v:V) (ov iv u:aA) (Q:Hp->Prop),cB X pins σ H s->ff o ov->ff i iv->ff v u->t o i v H Q->
  wpAny `Tm X.A (setItem ov iv u) (fun _ s'=>∃H',cB X pins σ H' s'/\Q H') X.xe s
abbrev TIp:=V->V->Hp->VK->Prop
def PIp (X:Cx) (op:Operator) (t:TIp):Prop:=
 ∀(pins:List (ak×Obj)) (s:aS) (σ:St) (H:Hp) (x y:V) (v u:aA) (Q:VK),cB X pins σ H s->ff x v->ff y u->t x y H Q->
  wpAny `Tm X.A (inplaceOp op v u) `bg' X.xe s
section
variable {X:Cx} {pos:Pos}
def ss (i:Nat):TG:=fun v σ H Q=>Q (σ.set i `eG') H
def cp (hN:X.N.Nodup) (hi:X.N[i]? =some x) (hx:VU X.env.scope x) (hf:X.fn x=true\/X.env.scope.names.lookup x=some .local:=by first|exact .inl rfl|exact .inr rfl|assumption):PG X `hb' (ss i):=by
 intro pins s σ H v u Q I r h;exact wpAny_assign_Name (tz I hN hi hx r (fun s' I'=>#[_,H,I',h]) hf)
def Pc:TGs:=fun vs σ H Q=>vs=[]/\Q σ H
def vN (t:TG) (u:TGs):TGs:=fun vs σ H Q=>∃v r,vs=v::r/\t v σ H fun σ' H'=>u r σ' H' Q
def r6:PGs X [] Pc:=by
 show 82;obtain⟨e,h⟩:=h;subst e;cases r;exact assignInOrder_nil #[σ,H,I,h]
def jm (h1:PG X e t) (h2:PGs X es u)
 (hs:(assignEach `dH' X.env).map (·.2)=assign e X.env::(assignEach es X.env).map (·.2):=by rfl):PGs X `dH' (vN t u):=by
 show 82;obtain⟨v,vr,e1,h⟩:=h;subst e1;cases r with
 |cons r rr=>
  rw[hs];refine assignInOrder_cons (iH (h1 pins s σ H _ _ _ I r h) fun _ s1 ⟨σ1,H1,I1,q1⟩=>?_);exact h2 pins s1 σ1 H1 _ _ Q I1 rr q1
def Og (K:ai) (n:Nat) (t:TGs):TG:=fun v σ H Q=>∃a xs,v= .ref a/\iX K H a xs/\xs.length=n/\t xs σ H Q
def uE (hc:X.calm=true) (h:PGs X es t)
 (hn:(assignEach es X.env).length=n:=by rfl) (uk:(assignEach es X.env).findIdx? (·.1)=none:=by rfl):PG X (.Tuple es k pos) (Og X.K n t):=by
 intro pins s σ H v u Q I r hw;obtain⟨a,xs,e1,hq,hl,hw⟩:=hw;subst e1;cases r;obtain⟨its,rv,ht,hz⟩:=I.tuple hq;refine assign_Tuple_tuple `bZ' ht (by simp[hn,<-hl,rv.length]) uk fun h' hx=>?_;have I1:=I.kept (t':=s.toks) fun b o e=>hx b o (cF (a8 e)) e;exact h pins _ σ H xs _ Q I1 (by simpa using rv) hw
def ab4 (to ti:TE) (t:ZL):TG:=fun v σ H Q=>to σ H fun o H1=>ti σ H1 fun i H2=>t o i v H2 fun H3=>Q σ H3
def VG (ho:PE X o to) (hi:PE X i ti) (hs:aaF X t)
 (ha:∀v,assign `gK' X.env v=(do
  let ov<-holding [v] (eval o X.env)
  let iv<-holding [v,ov] (eval i X.env)
  standAt pos
  holding [v,ov,iv] (setItem ov iv v)
  release [v,ov,iv] []):=by intro _;rfl):PG X `gK' (ab4 to ti t):=by
 intro pins s σ H v u Q I r h;rw[ha];refine ah (eS (iH `cw' fun ov s1 ⟨x,H1,I1,r1,q1⟩=>?_));refine ah (eS (iH `hz' fun iv s2 ⟨y,H2,I2,r2,q2⟩=>?_));refine ah (wpAny_standAt (ah (eS (iH (hs pins s2 σ H2 x y v ov iv u _ I2 r1 r2 r q2) fun _ s3 ⟨H3,I3,q3⟩=>?_))));exact wpAny_release #[σ,H3,I3,q3]
def Wa (te:TE) (g:TG):TS:=fun D σ H=>te σ H fun x H1=>g x σ H1 D.nx
def U2 (he:PE X e te) (hg:PG X tg g) (hs:swapsWithSole [tg] e pos.line X.env=pure false:=by rfl) (hw:swappedStores [tg] e X.env=pure none:=by rfl)
 (h1:(assignEach [tg] X.env).map (·.2)=[assign tg X.env]:=by rfl):PS X (.Assign [tg] e pos) (Wa te g):=by
 show 13;refine wpAny_Assign_stores (iH `bQ' fun v s1 ⟨x,H1,I1,r1,q1⟩=>?_) hs hw;rw[h1];exact iH (hg pins s1 σ H1 x v _ I1 r1 q1) fun _ s2 q=>q
def bP (hN:X.N.Nodup) (hi:X.N[i]? =some x) (hx:VU X.env.scope x) (he:PE X e te) (hs:swapsWith e (some (.Name x wq)) pos.line X.env=pure false:=by rfl) (hf:X.fn x=true\/X.env.scope.names.lookup x=some .local:=by first|exact .inl rfl|exact .inr rfl|assumption):
 PS X (.Assign [.Name x wq] e pos) (Wa te (ss i)):=by
 show 13;refine wpAny_Assign_Name (iH `bQ' fun v s1 ⟨y,H1,I1,r1,q1⟩=>?_) hs;exact tz I1 hN hi hx r1 (fun s2 I2=>#[_,H1,I2,q1]) hf
def aci (i:Nat) (te:TE) (ti:TIp):TS:=fun D σ H=>∃x,σ[i]? =some (some x)/\te σ H fun y H1=>ti x y H1 fun z H2=>D.nx (σ.set i (some z)) H2
def uG (hN:X.N.Nodup) (hi:X.N[i]? =some x) (hx:VU X.env.scope x) (he:PE X e te) (ho:PIp X op ti) (hf:X.fn x=true\/X.env.scope.names.lookup x=some .local:=by first|exact .inl rfl|exact .inr rfl|assumption):
 PS X (.AugAssign (.Name x wq) op e pos) (aci i te ti):=by
 show 13;obtain⟨v,e1,h⟩:=h;show 120;have vis:Uc X.env.scope x:=by rcases hx with k|k;exact .inl k;exact .inr (.inl k)
 obtain⟨u,r,l⟩:=hl i x v hi e1 vis;refine wpAny_AugAssign_Name ?_;have go:wpAny `Tm X.A `kZ' (fun w s₂=>wpAny `Tm X.A (inplaceOp op u w) (fun r s₃=>wpAny `Tm X.A (storeName X.env x r) (fun _=>SP X pins D .next) X.xe s₃) X.xe s₂) X.xe s:=by
  refine iH `bQ' fun w s1 ⟨y,H1,I1,r1,q1⟩=>?_;refine iH (ho pins s1 σ H1 v y u w _ I1 r r1 q1) fun z s2 ⟨zv,H2,I2,r2,q2⟩=>?_;exact tz I2 hN hi hx r2 (fun s3 I3=>#[_,H2,I3,q2]) hf
 rcases l with⟨hk,hm⟩| ⟨hk,c,hc,vc⟩
 ·exact wpAny_loadName_local I.ok.kind hk hn hm go
 ·rcases hk with hk|hk
  ·exact wpAny_loadName_cell I.ok.kind hk hc vc go
  ·rcases hx with k|k
   ·show 149
   ·show 149
def ipI (f:Int->Int->Int):TIp:=fun x y H Q=>∃i j,x= .int i/\y= .int j/\Q (.int (f i j)) H
def A7:PIp X .Add (ipI fun i j=>i+j):=by
 show 41;exact iadd_int #[.int _,H,I.tok _,`dQ',q]
def U3:PIp X .Sub (ipI fun i j=>i - j):=by
 show 41;exact isub_int #[.int _,H,I.tok _,`dQ',q]
end
section
variable {X:Cx} {pos:Pos}
def We (c:TT) (tb:TS):TS:=fun D σ H=>∃W:Nat->St->Hp->Prop,(∃m,W m σ H)/\∀m σ H,W m σ H->
 c σ H fun b H1=>if b=true then ∃N:St->Hp->Prop,(∀σ' H',N σ' H'->∃m',m'<m/\W m' σ' H')/\tb {D with nx:=N,ct:=N,bk:=D.nx} σ H1 else D.nx σ H1
def tK (hp:PassesOwn `Tm X.A X.env X.xe) (hc:PT X c tc) (hb:Hl X body tb):PS X (.While c body [] pos) (We tc tb):=by
 show 13;obtain⟨W,⟨m0,w0⟩,GP⟩:=h;refine wpAny_While (codeAny_whileLoop (fun n s'=>∃σ' H',cB X pins σ' H' s'/\W n σ' H') ?_ m0 #[σ,H,I,w0]);rintro n s1 ⟨σ1,H1,I1,w1⟩;refine i8 hp (iH (hc pins s1 σ1 H1 _ I1 (GP n σ1 H1 w1)) fun b s2 ⟨H2,I2,q2⟩=>?_);cases b with
 |true=>
  obtain⟨N,hN,q2⟩:=q2;rw[aD rfl];refine i8 hp (iH (hb pins s2 σ1 H2 _ I2 q2) fun f s3 q3=>?_);cases f with
  |next=>
   show 183;exact#[m',hm,σ3,H3,I3,w3]
  |cont=>
   show 183;exact#[m',hm,σ3,H3,I3,w3]
  |brk=>exact q3
  |ret v=>exact q3
 |false=>
  rw[au c8];exact om #[σ1,H2,I2,q2]
end
structure It where
 go:Nat->Hp->Prop
 yld:Nat->Hp->V->Hp->Prop
 stop:Nat->Hp->Prop
def vJ (X:Cx) (pins:List `cQ') (H:Hp) (b:ak):Prop:=
 H b=none/\b≠X.env.locals/\b∉X.fs/\`de'/\(∀x c,X.env.cells.lookup x=some c->c≠b)/\∀p∈X.pn++pins,p.1≠b
def cB.fpOk (I:cB X pins σ H s) (hb:s.heap.objs.size<=b) (hn:H' b=none):vJ X pins H' b:=by
 refine#[hn,gS (bD I.lt hb),I.nofs hb,.inr (aU I.sz hb),fun x c e z=>?_,fun p hp z=>?_]
 ·obtain⟨v,q⟩:=I.cell x c e;exact absurd (bD q.lt `kV') (dz _)
 ·exact absurd (bD (a8 (I.pin p hp).1) `kV') (dz _)
structure Ef (P:bN) (w:cV) (K:ai) (tg:Expr) (J:It) (fp:List ak) (it:ak) (tn:Nat->cZ->Prop):Prop where
 mem:it∈fp
 obj:∀i h,tn i h->∀b∈fp,∃o,h.get? b=some o/\∀v,o.data≠ .cell v
 keep:∀i h h',tn i h->(∀b∈fp,∀o,h.get? b=some o->h'.get? b=some o)->tn i h'
 item:∀(X:Cx),X.prog=P->X.w=w->X.K=K->X.calm=true->∀(i:Nat) (pins:List (ak×Obj)) (s:aS) (σ:St) (H:Hp) (E:aA->aS->Prop),cB X pins σ H s->(∀b∈fp,vJ X pins H b)->tn i s.heap->J.go i H->
  wpAny `gG' X.A (pyNext `ea') (fun r s1=>∃u,r=some u/\
   wpAny `gG' X.A (letOwnedTupleGo tg `ea' u) (fun _ s2=>∃x H',cB X pins σ H' s2/\ff x u/\J.yld i H x H'/\tn (i+1) s2.heap/\∀b∈fp,H' b=none) E s1) E s
 done:∀(X:Cx),X.prog=P->X.w=w->X.K=K->X.calm=true->∀(i:Nat) (pins:List (ak×Obj)) (s:aS) (σ:St) (H:Hp) (E:aA->aS->Prop),cB X pins σ H s->(∀b∈fp,vJ X pins H b)->tn i s.heap->J.stop i H->
  wpAny `gG' X.A (pyNext `ea') (fun r s1=>r=none/\cB X pins σ H s1) E s
 self:∀(A:dY) (i:Nat) (s:aS) (Q:aA->aS->Prop) (E:aA->aS->Prop),tn i s.heap->Q `ea' s->wpAny `gG' A (pyIter `ea') Q E s
abbrev TI:=St->Hp->(It->Hp->Prop)->Prop
def PIE (X:Cx) (pins:List `cQ') (σ:St) (tg:Expr) (R:It->Hp->Prop) (itv:aA) (s2:aS):Prop:=
 ∃(it:ak) (fp:List ak) (tn:Nat->cZ->Prop) (J:It) (H':Hp),itv= .ref it/\cB X pins σ H' s2/\Ef X.prog X.w X.K tg J fp it tn/\tn 0 s2.heap/\(∀b∈fp,vJ X pins H' b)/\R J H'
def PI (X:Cx) (tg iter:Expr) (wi:TI):Prop:=
 ∀(pins:List (ak×Obj)) (s:aS) (σ:St) (H:Hp) (R:It->Hp->Prop),cB X pins σ H s->wi σ H R->
  wpAny `Tm X.A (eval iter X.env) (fun v s1=>wpAny `Tm X.A (pyIter v) (PIE X pins σ tg R) X.xe s1) X.xe s
def Gm (ho:s.heap.get? it=some o) (hc:o.cls= .type n) (hd:o.data= .fields vs)
 (hn:["enumerate","zip","dict_itemiterator","dict_reverseitemiterator","odict_iterator","itertools.zip_longest","itertools.pairwise"].contains n=false) (hQ:Q () s):wpAny M A (letOwnedTupleGo tg `ea' u) Q E s:=by
 cases tg<;>first
  |exact aJ hQ
  | (cases u<;>first
   |exact aJ hQ
   | (refine ah (wpAny_load ho ?_);rw[hc,hd];show wpAny M A (if(["enumerate","zip","dict_itemiterator","dict_reverseitemiterator","odict_iterator","itertools.zip_longest","itertools.pairwise"].contains n&&vs[0]? ==some (rawInt _))=true then _ else _) Q E s;rw[au (by intro h;rw[hn,dS] at h;cases h)];exact aJ hQ))
def QT (K:ai) (a:ak):It:=
 #[fun i H=>∃xs x,SqL K H a xs/\xs[i]? =some x,fun i H x H'=>H'=H/\∀xs,SqL K H a xs->xs[i]? =some x,fun i H=>∃xs,SqL K H a xs/\xs.length<=i]
def WF (K:ai) (a:ak):It:=
 #[fun i H=>∃xs x,iX K H a xs/\xs[i]? =some x,fun i H x H'=>H'=H/\∀xs,iX K H a xs->xs[i]? =some x,fun i H=>∃xs,iX K H a xs/\xs.length<=i]
def L6 (lo:Int) (n:Nat):It:=#[fun i _=>i<n,fun i H x H'=>H'=H/\x= .int (lo+i),fun i _=>n<=i]
def LC {K:ai} (a it:ak):Ef P w K tg (QT K a) [it] it (fun i h=>h.IsListIter it a i) where
 mem:=by simp
 obj:=fun i h st b hb=>by
  show 53
  subst e;obtain⟨o,e,c,d⟩:=st;exact `eJ'
 keep:=fun i h h' st k=>st.at fun o e=>k it `S' o e
 item:=by
  show 2;show 180;show 51;show 5;refine wpAny_pyNext_list_item st p.isList `fm' fun h' Bh sb=>?_;show 32;exact#[u,rfl,Gm e c d `KK #[x,H,I1,ru,`gZ',Bh,fun b hb=>(hf b hb).1]]
 done:=by
  show 2;show 199;show 5;have hl:=rv.length;exact wpAny_pyNext_list_end `bZ' st p.isList `hp' fun h' eb=>`aD'
 self:=fun _ _ _ _ _ st h=>wpAny_pyIter_listiter st h
def IX {K:ai} (a it:ak):Ef P w K tg (WF K a) [it] it (fun i h=>h.IsTupleIter it a i) where
 mem:=by simp
 obj:=fun i h st b hb=>by
  show 53
  subst e;obtain⟨o,e,c,d⟩:=st;exact `eJ'
 keep:=fun i h h' st k=>st.at fun o e=>k it `S' o e
 item:=by
  show 2;show 180;obtain⟨its,rv,p,hz⟩:=I.tuple hq;obtain⟨u,hu,ru⟩:=rv.get hx;show 5;refine wpAny_pyNext_tuple_item st (p) `fm' fun h' Bh sb=>?_;show 32;exact#[u,rfl,Gm e c d `KK #[x,H,I1,ru,#[rfl,fun ys hy=>by rw[I.tuple_inj hy hq];exact hx],Bh,fun b hb=>(hf b hb).1]]
 done:=by
  show 2;obtain⟨xs,hq,hx⟩:=hg;obtain⟨its,rv,p,hz⟩:=I.tuple hq;show 5;have hl:=rv.length;exact wpAny_pyNext_tuple_end `bZ' st (p) `hp' fun h' eb=>`aD'
 self:=fun _ _ _ _ _ st h=>wpAny_pyIter_tupleiter st h
def A1 {K:ai} (it:ak) (lo:Int) (n:Nat):Ef P w K tg (L6 lo n) [it] it (fun i h=>IsRangeIter h it (lo+(i:Nat)*1) ((n:Int) - (i:Nat)) 1) where
 mem:=by simp
 obj:=fun i h st b hb=>by
  show 53
  subst e;exact⟨_,st,fun v z=>by
   have z':=z;cases z'⟩
 keep:=fun i h h' st k=>k it `S' _ st
 item:=by
  show 2;show 5;have W:=Walks.range (prog:=X.prog) (w:=X.w) `bZ' it lo 1 n;show 30;refine#[_,rfl,Gm Bh rfl rfl `KK #[.int (lo+i),H,I1,#[t,?_],`hI',Bh,fun b hb=>(hf b hb).1]];rw[Int.mul_one]
 done:=by
  show 2;show 5;show 133
 self:=fun _ _ _ _ _ st h=>wpAny_pyIter_rangeiter st h
section
variable {X:Cx} {tg:Expr}
def TU (K:ai) (tl:TE):TI:=fun σ H R=>tl σ H fun x H1=>∃a,x= .ref a/\(∃xs,SqL K H1 a xs)/\R (QT K a) H1
def acp (K:ai) (tl:TE):TI:=fun σ H R=>tl σ H fun x H1=>∃a,x= .ref a/\(∃xs,iX K H1 a xs)/\R (WF K a) H1
def iF {tl:TE} (hl:PE X l tl):PI X tg l (TU X.K tl):=by
 show 35;obtain⟨its,rv,p,hz⟩:=I1.list hq;refine wpAny_pyIter_list p.isList ?_;refine#[s1.heap.objs.size,[s1.heap.objs.size],_,_,H1,rfl,I1.kept fun b o e=>ap _ e,LC a _,`eB',fun b hb=>?_,q];have e:b=s1.heap.objs.size:=by simpa using hb
 show 202
def DC {tl:TE} (hl:PE X l tl):PI X tg l (acp X.K tl):=by
 show 35;obtain⟨its,rv,p,hz⟩:=I1.tuple hq;refine iN (p) ?_;refine#[s1.heap.objs.size,[s1.heap.objs.size],_,_,H1,rfl,I1.kept fun b o e=>ap _ e,IX a _,`eB',fun b hb=>?_,q];have e:b=s1.heap.objs.size:=by simpa using hb
 show 202
def GB {pins:List `cQ'} {lo hi:Int} (I:cB X pins σ H s) (h1: -(2^62)<=lo) (h2:lo<2^62) (h3: -(2^62)<=hi) (h4:hi<2^62)
 (q:R (L6 lo (hi - lo).toNat) H):wpAny `Tm X.A (pyIter `ai') (PIE X pins σ tg R) E {s with heap:=s.heap.push {cls:=.type "range",data:=.fields `aK'},toks:=tk}:=by
 refine wpAny_pyIter_range `i8' (small_one h1 h2 h3 h4) ?_;have I1:cB X pins σ H {s with heap:=s.heap.push {cls:=.type "range",data:=.fields `aK'},toks:=tk}:=I.kept fun b o e=>ap _ e;refine⟨(s.heap.push {cls:=.type "range",data:=.fields `aK'}).objs.size,[(s.heap.push {cls:=.type "range",data:=.fields `aK'}).objs.size],_,_,H,rfl,
  I1.kept fun b o e=>ap _ e,A1 _ lo (hi - lo).toNat,?_,fun b hb=>?_,q⟩
 ·have e1:lo+((0:Nat):Int)*1=lo:=by simp
  have e2:(((hi - lo).toNat:Nat):Int) - ((0:Nat):Int)=rangeSize lo hi 1:=by rw[rangeSize_one];split<;>omega
  rw[e1,e2];exact a7 _ rfl
 ·have e:b=(s.heap.push {cls:=.type "range",data:=.fields `aK'}).objs.size:=by simpa using hb
  show 202
def aaj (ta:TA):TI:=fun σ H R=>ta σ H fun vs H1=>∃j:Int,vs=[.int j]/\ -(2^62)<=j/\j<2^62/\R (L6 0 j.toNat) H1
def ZE (ta:TA):TI:=fun σ H R=>ta σ H fun vs H1=>∃i j:Int,vs=`kc'/\(-(2^62)<=i/\i<2^62/\ -(2^62)<=j/\j<2^62)/\R (L6 i (j - i).toNat) H1
def jc {ta:TA} (hg:Gl X "range") (hm:X.mg "range"=none) (ha:PA X [a] ta) (hs:starEach [a] X.env=[(false,eval a X.env)]:=by rfl):PI X tg (.Call `ip' [a] [] pos) (aaj ta):=by
 intro pins s σ H R I h;refine Call_ (mT I hg hm boot_range (b7 `V' hs rfl));obtain⟨j,e,q1,q2,q⟩:=q1;subst e;cases r1 with
 |cons r rr=>
  cases rr;show 49;exact call_range_1 (GB I1 `mt `mt q1 q2 (by simpa using q))
def xp {ta:TA} (hg:Gl X "range") (hm:X.mg "range"=none) (ha:PA X [a,b] ta) (hs:starEach [a,b] X.env=`iF':=by rfl) (Jo:starEach [b] X.env=[(false,eval b X.env)]:=by rfl):
 PI X tg (.Call `ip' [a,b] [] pos) (ZE ta):=by
 show 109;obtain⟨i,j,e,⟨q1,q2,q3,q4⟩,q⟩:=q1;subst e;cases r1 with
 |cons r rr=>
  cases rr with
  |cons r' rr=>
   cases rr;show 49;obtain⟨t',rfl⟩:=r';exact call_range_2 (GB I1 q1 q2 q3 q4 q)
def acB (wi:TI) (g:TG) (tb:TS):TS:=fun D σ H=>wi σ H fun J H1=>∃W:Nat->Nat->St->Hp->Prop,(∃m,W 0 m σ H1)/\∀i m σ H,W i m σ H->
 (J.stop i H/\D.nx σ H)\/(J.go i H/\∃N:St->Hp->Prop,(∀σ' H',N σ' H'->∃m',m'<m/\W (i+1) m' σ' H')/\∀x H',J.yld i H x H'->g x σ H' fun σ2 H2=>tb {D with nx:=N,ct:=N,bk:=D.nx} σ2 H2)
def AJ (fp:List ak) (h:cZ):List `cQ':=fp.filterMap fun b=>(h.get? b).map fun o=>(b,o)
def uP {o:Obj} (hb:b∈fp) (e:h.get? b=some o):(b,o)∈AJ fp h:=iP.mpr #[b,hb,by rw[e];rfl]
def LN {h:cZ} (hp:p∈AJ fp h):p.1∈fp/\h.get? p.1=some p.2:=by
 obtain⟨b,hb,e⟩:=iP.mp hp;cases q:h.get? b with
 |none=>rw[q] at e;cases e
 |some o=>
  rw[q] at e;have e':=aP e;subst e';exact#[hb,q]
def cB.pinned {σ:St} (I:cB X pins σ H s) (hf:∀b∈fp,vJ X pins H b) (ho:∀b∈fp,∃o,s.heap.get? b=some o/\∀v,o.data≠ .cell v):cB X (pins++AJ fp s.heap) σ H s:=
 I.pins_of fun p hp=>(eN.mp hp).elim (fun z=>I.pin p (b3 _ z)) fun z=>by
  obtain⟨hb,e⟩:=LN z;obtain⟨f0,f1,f2,_⟩:=hf p.1 hb;obtain⟨o,e',d⟩:=ho p.1 hb;rw[e] at e';cases e';exact#[e,f0,f1,f2,d]
def cB.unpinned {H:Hp} (I:cB X (pins++pl) σ H s):cB X pins σ H s:=I.pins_of fun p hp=>I.pin p (b3 _ (eI _ hp))
def mf {iter:Expr} (hp:PassesOwn `Tm X.A X.env X.xe) (hc:X.calm=true) (hi:PI X tg iter wi) (hg:PG X tg g) (hb:Hl X body tb)
 (hs:∀x,foldedSetIterable iter X.env x=pure x:=by intro _;rfl):PS X (.For tg iter body [] pos) (acB wi g tb):=by
 show 13;refine wpAny_For (iH `jj' fun v s1 h1=>iH h1 fun itv s2 h2=>?_) hs;obtain⟨it,fp,tn,J,H2,e,I2,T,st2,f2,W,⟨m0,w0⟩,GP⟩:=h2;subst e;have GW:∀{H':Hp},(∀b∈fp,H' b=none)->∀b∈fp,vJ X pins H' b:=fun hn b hb=>#[hn b hb,(f2 b hb).2]
 refine codeAny_forLoop_any (fun n s'=>∃i σ' H',cB X pins σ' H' s'/\tn i s'.heap/\(∀b∈fp,H' b=none)/\W i n σ' H') ?_ m0 #[0,σ,H2,I2,st2,fun b hb=>(f2 b hb).1,w0];rintro n s3 ⟨i,σ3,H3,I3,st3,fr3,w3⟩;rcases GP i n σ3 H3 w3 with⟨stop,qn⟩| ⟨go,N,hN,step⟩
 ·refine i8 hp (iH (T.done X rfl rfl rfl hc i pins s3 σ3 H3 X.xe I3 (GW fr3) st3 stop) fun r s4 ⟨hr,I4⟩=>?_);subst hr;exact om #[σ3,H3,I4,qn]
 ·refine i8 hp (iH (T.item X rfl rfl rfl hc i pins s3 σ3 H3 X.xe I3 (GW fr3) st3 go) fun r s4 ⟨u,hr,h4⟩=>?_);subst hr;refine i8 hp (iH h4 fun _ s5 ⟨x,H5,I5,r5,y5,Wy,fr5⟩=>?_);have I5':=I5.pinned (GW fr5) (T.obj _ _ Wy);refine i8 hp (iH (hg _ s5 σ3 H5 x u _ I5' r5 (step x H5 y5)) fun _ s6 ⟨σ6,H6,I6,q6⟩=>?_);refine i8 hp (iH (hb _ s6 σ6 H6 _ I6 q6) fun f s7 q7=>?_);have again:∀{σ7:St} {H7:Hp},cB X (pins++AJ fp s5.heap) σ7 H7 s7->N σ7 H7->∃m,m<n/\∃i σ' H',cB X pins σ' H' s7/\tn i s7.heap/\(∀b∈fp,H' b=none)/\W i m σ' H':=fun{σ7 H7} I7 n7=>by
   obtain⟨m',hm,w7⟩:=hN σ7 H7 n7;refine#[m',hm,i+1,σ7,H7,I7.unpinned,T.keep _ _ _ Wy fun b hb o e=>(I7.pin (b,o) `iN').1,fun b hb=>?_,w7];obtain⟨o,e,d⟩:=T.obj _ _ Wy b hb;exact(I7.pin (b,o) `iN').2.1
  cases f with
  |next=>obtain⟨σ7,H7,I7,n7⟩:=q7;exact again I7 n7
  |cont=>obtain⟨σ7,H7,I7,n7⟩:=q7;exact again I7 n7
  |brk=>obtain⟨σ7,H7,I7,q7⟩:=q7;exact#[σ7,H7,I7.unpinned,q7]
  |ret v=>obtain⟨x7,σ7,H7,I7,r7,q7⟩:=q7;exact#[x7,σ7,H7,I7.unpinned,r7,q7]
end
def pI {K:ai} {g:TG} {tb:TS} {D:Dt} (Pv:Nat->St->Hp->Prop) (h0:Pv 0 σ H) (hl:∀i σ H,i<=xs.length->Pv i σ H->SqL K H a xs)
 (hs:∀i x σ H,xs[i]? =some x->Pv i σ H->g x σ H fun σ2 H2=>tb {D with nx:=Pv (i+1),ct:=Pv (i+1),bk:=D.nx} σ2 H2) (hd:∀σ H,Pv xs.length σ H->D.nx σ H):
 ∃W:Nat->Nat->St->Hp->Prop,(∃m,W 0 m σ H)/\∀i m σ H,W i m σ H->
  ((QT K a).stop i H/\D.nx σ H)\/((QT K a).go i H/\∃N:St->Hp->Prop,(∀σ' H',N σ' H'->∃m',m'<m/\W (i+1) m' σ' H')/\∀x H',(QT K a).yld i H x H'->g x σ H' fun σ2 H2=>tb {D with nx:=N,ct:=N,bk:=D.nx} σ2 H2):=by
 refine `dC';show 95;have q:=hl i σ H hi p;by_cases jB:i<xs.length
 ·show 184;obtain⟨e,y⟩:=y;subst e;exact hs i x σ _ (y xs q) p
 ·have e:i=xs.length:=by omega
  subst e;exact .inl #[`m2',hd σ H p]
def wP {lo:Int} {g:TG} {tb:TS} {D:Dt} (Pv:Nat->St->Hp->Prop) (h0:Pv 0 σ H)
 (hs:∀i σ H,i<n->Pv i σ H->g (.int (lo+i)) σ H fun σ2 H2=>tb {D with nx:=Pv (i+1),ct:=Pv (i+1),bk:=D.nx} σ2 H2) (hd:∀σ H,Pv n σ H->D.nx σ H):
 ∃W:Nat->Nat->St->Hp->Prop,(∃m,W 0 m σ H)/\∀i m σ H,W i m σ H->
  ((L6 lo n).stop i H/\D.nx σ H)\/((L6 lo n).go i H/\∃N:St->Hp->Prop,(∀σ' H',N σ' H'->∃m',m'<m/\W (i+1) m' σ' H')/\∀x H',(L6 lo n).yld i H x H'->g x σ H' fun σ2 H2=>tb {D with nx:=N,ct:=N,bk:=D.nx} σ2 H2):=by
 refine `fg';show 95;by_cases jB:i<n
 ·show 69
 ·have e:i=n:=by omega
  subst e;exact .inl `ml'
abbrev R2:=V->V->Hp->VK->Prop
def E7 (X:Cx) (f:aA->aA->Sem aA) (r:R2):Prop:=
 ∀(pins:List (ak×Obj)) (s:aS) (σ:St) (H:Hp) (x y:V) (v u:aA) (Q:VK),cB X pins σ H s->ff x v->ff y u->r x y H Q->
  wpAny `Tm X.A (f v u) `bg' X.xe s
def UnR (X:Cx) (f:aA->Sem aA) (r:V->Hp->VK->Prop):Prop:=
 ∀(pins:List (ak×Obj)) (s:aS) (σ:St) (H:Hp) (x:V) (v:aA) (Q:VK),cB X pins σ H s->ff x v->r x H Q->
  wpAny `Tm X.A (f v) `bg' X.xe s
def rf (X:Cx) (f:aA) (r:List V->Hp->VK->Prop):Prop:=
 ∀(pins:List (ak×Obj)) (s:aS) (σ:St) (H:Hp) (xs:List V) (us:List aA) (Q:VK),cB X pins σ H s->dy xs us->r xs H Q->
  wpAny `Tm X.A (call f us) `bg' X.xe s
def QS (r:R2) (ta tb:TE):TE:=fun σ H Q=>ta σ H fun x H1=>tb σ H1 fun y H2=>r x y H2 Q
def tUn (r:V->Hp->VK->Prop) (ta:TE):TE:=fun σ H Q=>ta σ H fun x H1=>r x H1 Q
def rI (C:Int->Int->Prop) (g:Int->Int->V):R2:=fun x y H Q=>∃i j,x= .int i/\y= .int j/\C i j/\Q (g i j) H
def Sm (g:Int->Int->V):R2:=fun x y H Q=>∃i j,x= .int i/\y= .int j/\Q (g i j) H
def rU (g:Int->V):V->Hp->VK->Prop:=fun x H Q=>∃i,x= .int i/\Q (g i) H
section
variable {X:Cx} {a b c:Expr} {ta tb tc:TE} {pos:Pos}
def aai (ha:PE X a ta) (hb:PE X b tb) {R:V->V->Hp->Prop} (I:cB X pins σ H s)
 (h:ta σ H fun x H1=>tb σ H1 fun y H2=>R x y H2) {f:aA->aA->Sem aA}
 (hf:∀v u s2 x y H2,cB X pins σ H2 s2->ff x v->ff y u->R x y H2->wpAny `Tm X.A (f v u) Q X.xe s2):
 wpAny `Tm X.A (eval a X.env) (fun v s₁=>wpAny `Tm X.A (eval b X.env) (fun u s₂=>wpAny `Tm X.A (f v u) Q X.xe s₂) X.xe s₁) X.xe s:=by
 show 31
def cJ {op:Operator} (ho:E7 X (binaryOp op) r) (ha:PE X a ta) (hb:PE X b tb):PE X (.BinOp a op b pos) (QS r ta tb):=by
 show 3;exact wpAny_BinOp (aai ha hb I h fun v u s2 x y H2 I2 rx ry q=>ho pins s2 σ H2 x y v u Q I2 rx ry q)
def Gi (ho:UnR X (unaryOp op) r) (ha:PE X a ta):PE X (.UnaryOp op a pos) (tUn r ta):=by
 show 3;exact UnaryOp_ (iH `aZ' fun v s1 ⟨x,H1,I1,r1,q1⟩=>ho pins s1 σ H1 x v Q I1 r1 q1)
def opI {g:Int->Int->Int}
 (rule:∀(i j:Int) (t u:Tok) (s:aS) (Q:aA->aS->Prop) (E:aA->aS->Prop),C i j->Q (.int (g i j) s.toks) {s with toks:=s.toks+1}->wpAny `Tm X.A (f `kN' (.int j u)) Q E s):
 E7 X f (rI C fun i j=>.int (g i j)):=by
 show 18;obtain⟨i,j,rfl,rfl,hc,q⟩:=h;show 123;exact rule i j t t' s _ _ hc #[.int (g i j),H,I.tok _,`dQ',q]
def RA {f:aA->aA->Sem aA} {g:Int->Int->Int}
 (rule:∀(i j:Int) (t u:Tok) (s:aS) (Q:aA->aS->Prop) (E:aA->aS->Prop),Q (.int (g i j) s.toks) {s with toks:=s.toks+1}->wpAny `Tm X.A (f `kN' (.int j u)) Q E s):
 E7 X f (Sm fun i j=>.int (g i j)):=by
 show 18;obtain⟨i,j,rfl,rfl,q⟩:=h;show 123;exact rule i j t t' s _ _ #[.int (g i j),H,I.tok _,`dQ',q]
def V2 (i j:Int):Prop:=0<=j/\j<=1000000/\i.natAbs<2^64
def OY (i j:Int):Prop:=(-(2^64)<i/\i<2^64)\/(-(2^64)<j/\j<2^64)
def OY.ok (h:OY i j):IntMulOk i j:=by
 rcases h with⟨h1,h2⟩| ⟨h1,h2⟩
 ·exact .of_left (intBits_le_64 h1 h2)
 ·exact .of_right (intBits_le_64 h1 h2)
def IB (k:Nat):(0:Int)<=2^k:=by
 rw[two_pow_cast];exact fi _
def gx:E7 X `j2' `fl':=RA fun _ _ _ _ _ _ _ q=>add_int q
def u0:E7 X (binaryOp .Sub) (Sm fun i j=>.int (i - j)):=RA fun _ _ _ _ _ _ _ q=>sub_int q
def AU:E7 X `nm' (rI OY fun i j=>.int (i*j)):=opI fun _ _ _ _ _ _ _ hc q=>mul_int q hc.ok
def Dm:E7 X (binaryOp .Mod) (rI (fun _ j=>0<j) fun i j=>.int (i%j)):=opI fun i j _ _ _ _ _ hc q=>by
 have h1:=hc;exact mod_int' `mt (by rw[Int.fmod_eq_emod_of_nonneg i `mt];exact q)
def uR:E7 X (binaryOp .LShift) `kH':=opI fun _ _ _ _ _ _ _ hc q=>lshift_int_small hc.1 hc.2.1 hc.2.2 q
def yY:E7 X (binaryOp .RShift) (rI (fun _ j=>0<=j) fun i j=>.int (i/2^j.toNat)):=opI fun i j _ _ _ _ _ hc q=>
 rshift_int hc (by rw[Int.fdiv_eq_ediv_of_nonneg i (IB _)];exact q)
def xa:E7 X (binaryOp .BitAnd) (Sm fun i j=>.int (Builtin.bitAnd i j)):=RA fun _ _ _ _ _ _ _ q=>and_int q
def P6:E7 X (binaryOp .BitOr) `jO':=RA fun _ _ _ _ _ _ _ q=>or_int q
def unI {g:Int->Int}
 (rule:∀(i:Int) (t:Tok) (s:aS) (Q:aA->aS->Prop) (E:aA->aS->Prop),Q (.int (g i) s.toks) {s with toks:=s.toks+1}->wpAny `Tm X.A (f `kN') Q E s):
 UnR X f (rU fun i=>.int (g i)):=by
 intro pins s σ H x v Q I rx h;obtain⟨i,rfl,q⟩:=h;obtain⟨t,rfl⟩:=rx;exact rule i t s _ _ #[.int (g i),H,I.tok _,`dQ',q]
def yO:UnR X (unaryOp .USub) (rU fun i=>.int (-i)):=unI fun _ _ _ _ _ q=>neg_int q
end
section
variable {X:Cx} {a b c:Expr} {ta tb tc:TE} {pos:Pos}
def DH:(sizeLine:Nat)<2^63:=by rw[mq];decide
def yX (r:dy [x] us):∃u,us=[u]/\ff x u:=by
 cases r with
 |cons r1 r2=>cases r2;exact#[_,rfl,r1]
def TY (r:dy [x,y] us):∃u w',us=[u,w']/\ff x u/\ff y w':=by
 cases r with
 |cons r1 r2=>
  cases r2 with
  |cons r3 r4=>cases r4;exact#[_,_,rfl,r1,r3]
def xl (hc:X.calm=true):rf X `fj' (fun xs H Q=>∃i j,xs=`kc'/\Q (.int (if j>i then j else i)) H):=by
 show 20;show 138;refine max_two_ints `bZ' fun h' tk k=>#[_,H,I.kept k,?_,q]
 by_cases hj:j>i
 ·rw[aD hj,aD hj];exact `dQ'
 ·rw[au hj,au hj];exact `dQ'
def t7 (hc:X.calm=true):rf X (.builtin "min") (fun xs H Q=>∃i j,xs=`kc'/\Q (.int (if j<i then j else i)) H):=by
 show 20;show 138;refine min_two_ints `bZ' fun h' tk k=>#[_,H,I.kept k,?_,q]
 by_cases hj:j<i
 ·rw[aD hj,aD hj];exact `dQ'
 ·rw[au hj,au hj];exact `dQ'
end
structure Hk (h:cZ) (x dx C:ak) (mA:Str->Option aA):Prop where
 obj:h.get? x=some `i9'
 ns:h.Ns1 dx mA
 ne:dx≠x
def LR {h:cZ} (n:h.Ns1 dx mA):∃od,h.get? dx=some od/\∀name,PySem.W.lookIn name od=some (mA name):=by
 obtain⟨o,es,ep,ho,hd,hk,_,hm⟩:=n;refine#[o,ho,fun name=>?_];have e:=hm name;unfold nsFind findBy at e;rw[<-Array.find?_toList] at e;unfold PySem.W.lookIn;rw[hd];dsimp only
 split
 ·rename_i y q;rw[q] at e;exact dH some e
 ·rename_i q;rw[q] at e;have a:es.toList.any (·.refKey)=false:=by
   rw[qk];intro y hy;obtain⟨z,t,GT⟩:=hk y (Array.mem_toList_iff.mp hy);simp[DictEntry.refKey,GT]
  have a':¬es.toList.any (·.refKey)=true:=by rw[a];exact c8
  rw[au a'];exact dH some e
def Hk.look (I:Hk h x dx C mA):∃od,PySem.W.InstAt h x `i9' C (some od)/\∀name,PySem.W.lookIn name od=some (mA name):=
 let⟨od,ho,hl⟩:=LR I.ns
 #[od,#[I.obj,rfl,rfl,ho],hl]
section
variable {prog:bN} {w:cV} {A:dY} {E:aA->aS->Prop} {s:aS} {K:ai} {x dx C f:ak} {mA:Str->Option aA} {name:Str} {v:aA}
def So (X:K.In s.heap) (I:Hk s.heap x dx C mA) (hg:PySem.W.plainGet K C name=true) (hh:PySem.W.hasDictIn K C=true)
 (ha:PySem.W.findIn K `fM' name=some none) (hv:mA name=some v) (hv':PySem.W.handedIn v=true) (h:Q v {s with toks:=s.toks+1}):
 wpAny `C' A (getAttr (.ref x) name expr) Q E s:=by
 obtain⟨od,J,hl⟩:=I.look;exact PySem.W.get_value X J (oB hg).1 (PySem.W.findObj_own hh ha rfl (by rw[hl,hv])) hv' h
def O7 (X:K.In s.heap) (I:Hk s.heap x dx C mA) (hg:PySem.W.plainGet K C name=true)
 (hf:PySem.W.findIn K `fM' name=some (some `bA')) (ht:PySem.W.isFn K `bA'=true) (hv:mA name=none) (h:Q (.ref f,[.ref x]) s):
 wpAny `C' A (getMethod (.ref x) name pl) Q E s:=by
 obtain⟨od,J,hl⟩:=I.look;exact PySem.W.method_fn X J (oB hg).1 (oB hg).2 hf (gv.mp ht) (by show(PySem.W.lookIn name od).map (·.isSome)=some false;rw[hl,hv];rfl) h
def Rx (X:K.In s.heap) (I:Hk s.heap x dx C mA)
 (hs:PySem.W.findIn K `fM' "__setattr__"=some `jU') (hp:PySem.W.plainOver K C=true) (ht:PySem.W.takerIn K C name=some none) (hh:PySem.W.hasDictIn K C=true)
 (hw:PySem.Within mA ns) (hsz:ns.length<=sizeLine)
 (h:∀h',Hk h' x dx C (fun y=>if y=name then some v else mA y)->Heap.SameBut dx s.heap h'->Q () {s with heap:=h',toks:=s.toks+2}):
 wpAny `C' A (setAttr (.ref x) name v) Q E s:=by
 obtain⟨od,J,hl⟩:=I.look;refine PySem.W.set_plain X J hs (PySem.W.osa_open X J hp ht fun b=>?_);obtain⟨cd,hc,wn⟩:=PySem.W.any_some hh;have hx:=I.obj;refine ah (aJ (ah (ah (wpAny_loadPart hx (ah (PySem.W.Looks.here (PySem.W.looks_clsIn X hc) ?_))))));rw[wn];refine aJ (ah (aJ (ah ?_)));refine wpAny_nsSet1 I.ns fun h' Ww Jo=>?_;obtain⟨oD,esD,epD,hoD,hdD,hcD⟩:=Ww.count (PySem.Within.cons name v hw);refine ah (wpAny_lookBehind hoD (by rw[hdD];exact pastItsLine_dict (aU hcD (by rw[aF];omega))) ?_);exact aJ (h _ #[(Jo.2 _ (je I.ne)).trans I.obj,Ww,I.ne] Jo)
def Qh (X:K.In s.heap) (hm:PySem.W.makesIn K C=true)
 (hi:PySem.W.findIn K `fM' "__init__"=some (some `bA')) (hf:PySem.W.typeIn K `bA'=some (.type "function"))
 (h:codeAny `C' (A.under (.builtin "type.__call__" ⟨.ref C::vs,kw⟩)) (.call `bA' ⟨.ref `i'::vs,kw⟩) (PySem.W.InitBack `i' R)
  {s with heap:=(s.heap.push PySem.W.emptyDict).push `c0'}):
 codeAny `C' A (.call `fM' #[vs,kw]) R s:=by
 obtain⟨hh,g,d,t,os⟩:=s;exact PySem.W.make_core (PySem.W.makes_of X hm) (PySem.W.looks_findIn X hi) (fun self=>PySem.W.bind_fn X self hf) `a8' h
end
def rT (f:Str) (v:V):List (Str×V)->List (Str×V)
 | []=>[(f,v)]
 | (g,x)::r=>if g=f then(g,v)::r else(g,x)::rT f v r
def xC (f g:Str) (v:V):∀fs:List (Str×V),(rT f v fs).lookup g=if g=f then some v else fs.lookup g
 | []=>by
  show List.lookup g [(f,v)]=_;by_cases h:g=f
  ·have hb:=gv.mpr h;simp only[List.lookup,hb,aD h]
  ·have hb:=gz.mpr h;simp only[List.lookup,hb,au h]
 | (k,x)::r=>by
  have ih:=xC f g v r;show 79
  ·rw[aD hk];by_cases h:g=k
   ·have hb:=gv.mpr h;simp only[List.lookup,hb,aD (h.trans hk)]
   ·have hb:=gz.mpr h;simp only[List.lookup,hb,au (fun e:g=f=>h (e.trans hk.symm))]
  ·rw[au hk];by_cases h:g=k
   ·have hb:=gv.mpr h;simp only[List.lookup,hb,au (fun e:g=f=>hk (h.symm.trans e))]
   ·have hb:=gz.mpr h;simp only[List.lookup,hb];exact ih
def wB (f:Str) (v:V):∀fs:List (Str×V),f∈(rT f v fs).map (·.1)/\∀g,g∈fs.map (·.1)->g∈(rT f v fs).map (·.1)
 | []=>#[by simp[rT],fun g h=>by simp at h]
 | (k,x)::r=>by
  obtain⟨i1,i2⟩:=wB f v r;show 79
  ·rw[aD hk];subst hk;exact#[by simp,fun g h=>by simpa using h]
  ·rw[au hk];refine#[?_,fun g h=>?_]
   ·rw[bw];exact aK _ i1
   ·rw[bw] at h⊢
    rcases bh.mp h with e|e
    ·exact bh.mpr (.inl e)
    ·exact aK _ (i2 g e)
def xG (f:Str) (v:V):∀fs:List (Str×V),(rT f v fs).length<=fs.length+1
 | []=>by simp[rT]
 | (k,x)::r=>by
  have ih:=xG f v r;show 79
  ·rw[aD hk,aF,aF];omega
  ·rw[au hk,aF,aF];omega
def sD.some_of (r:sD `eG' o):∃u,o=some u/\ff v u:=by
 cases o with
 |none=>exact(r).elim
 |some u=>exact#[u,rfl,r]
def sD.none_of (r:sD none o):o=none:=by
 cases o with
 |none=>rfl
 |some u=>exact(r).elim
def Ma (r:ff v u):PySem.W.handedIn u=true:=by
 cases v with
 |non=>cases(r);rfl
 |bl b=>cases(r);rfl
 |int i=>obtain⟨t,e⟩:=(r);cases e;rfl
 |str x=>obtain⟨t,e⟩:=(r);cases e;rfl
 |byt b=>obtain⟨t,e⟩:=(r);cases e;rfl
 |flt b=>obtain⟨t,e⟩:=(r);cases e;rfl
 |ref a=>cases(r);rfl
 |ty n=>cases(r);rfl
section
variable {P:bN} {w:cV} {H H':Hp} {h h':cZ} {a C dx:ak} {fs fs':List (Str×V)}
def Ec (hok:sG P w H h) (e:H a=some `fk'):∃mA,Hk h a dx C mA/\(∀f,sD (fs.lookup f) (mA f))/\PySem.Within mA (fs.map (·.1))/\fs.length<=1000/\H dx=some (.own a):=by
 obtain⟨d,z,ne,ob,mA,n,r,q⟩:=(hok a _ e)
 exact#[mA,#[ob,n,ne],r,q,z,d]
end
structure OZ (K:ai) (C:ak):Prop where
 pg:PySem.W.plainGet K C Str.empty=true
 hd:PySem.W.hasDictIn K C=true
 po:PySem.W.plainOver K C=true
 sa:PySem.W.findIn K `fM' "__setattr__"=some `jU'
def OZ.get {K:ai} (c:OZ K C) (f:Str):PySem.W.plainGet K C f=true:=c.pg
def j6 (K:ai) (C:ak) (f:Str):Prop:=PySem.W.findIn K `fM' f=some none
def j6.taker {K:ai} (n:j6 K C f):PySem.W.takerIn K C f=some none:=by
 unfold PySem.W.takerIn;rw[show PySem.W.findIn K `fM' f=some none from n];rfl
structure SG (K:ai) (C:ak) (m:Str) (f:ak):Prop where
 at_:PySem.W.findIn K `fM' m=some (some `bA')
 fn:PySem.W.isFn K `bA'=true
 kp:keepIn K `bA'=true
section
variable {X:Cx} {pins:List (ak×Obj)} {σ:St} {H:Hp} {s:aS} {a C dx:ak} {fs:List (Str×V)} {f:Str} {v:V} {A:dY} {E:aA->aS->Prop}
def HV (I:cB X pins σ H s) (e:H a=some `fk') (c:OZ X.K C) (n:j6 X.K C f) (l:fs.lookup f=some v)
 (h:∀u s',cB X pins σ H s'->ff v u->Q u s'):wpAny `Tm A (getAttr `bu' f b) Q E s:=by
 obtain⟨mA,O,r,_,_,_⟩:=Ec I.hok e;obtain⟨u,hu,ru⟩:=sD.some_of (by rw[<-l];exact r f);exact So I.kIn O (c.get f) c.hd n hu (Ma ru) (h u _ `mM' ru)
def IT (I:cB X pins σ H s) (e:H a=some `fk') (c:OZ X.K C) (k:SG X.K C m g) (l:fs.lookup m=none)
 (h:Q (.ref g,`eH') s):wpAny `Tm A (getMethod `bu' m pl) Q E s:=by
 obtain⟨mA,O,r,_,_,_⟩:=Ec I.hok e;have hn:=sD.none_of (by rw[<-l];exact r m);exact O7 I.kIn O (c.get m) k.at_ k.fn hn h
def Hi (I:cB X pins σ H s) (e:H a=some `fk') (c:OZ X.K C) (n:j6 X.K C f) (hl:fs.length<1000) (ry:ff y u)
 (h:∀s',cB X pins σ (bO H a (.ins C dx (rT f y fs))) s'->Q () s'):wpAny `Tm A (setAttr `bu' f u) Q E s:=by
 obtain⟨mA,O,r,wi,_,ho⟩:=Ec I.hok e;have hz:(fs.map (·.1)).length<=sizeLine:=by rw[ae,mq];omega
 refine Rx I.kIn O c.sa c.po n.taker c.hd wi hz fun h' O' sb=>h _ ?_;have hd:∃o,h'.get? dx=some o:=let⟨o,_,_,e',_⟩:=O'.ns;#[o,e']
 refine I.write `ce' (.inr ho) (fun b q hb z=>(sb.2 b hb).trans z) hd ?_;refine#[by rw[aZ O.ne];exact ho,?_,O.ne,O'.obj,_,O'.ns,fun g=>?_,fun g hg=>?_]
 ·have:=xG f y fs;omega
 ·show sD ((rT f y fs).lookup g) `mC';rw[xC];by_cases q:g=f
  ·rw[aD q,aD q];exact ry
  ·rw[au q,au q];exact r g
 ·by_cases q:g=f
  ·rw[q];exact(wB f y fs).1
  ·refine(wB f y fs).2 g (wi g fun z=>hg ?_);show `mC'=none;rw[au q];exact z
def cB.made (I:cB X pins σ H s):cB X pins σ (bO (bO H s.heap.objs.size (.own `i')) `i' (.ins C s.heap.objs.size []))
 {s with heap:=(s.heap.push PySem.W.emptyDict).push `c0'}:=by
 have e1:(s.heap.push PySem.W.emptyDict).get? s.heap.objs.size=some PySem.W.emptyDict:=a7 s.heap rfl;have e2:((s.heap.push PySem.W.emptyDict).push `c0').get? `i'=some `c0':=by
  have:=a7 (s.heap.push PySem.W.emptyDict) (o:=PySem.W.instObj C s.heap.objs.size) rfl
  rwa [b8] at this
 have e3:(s.heap.push PySem.W.emptyDict).Ns s.heap.objs.size (fun _=>none):=#[PySem.W.emptyDict,#[],_,e1,rfl,(fun e he=>absurd he `S'),fun _=>rfl]
 have I1:=I.laid (o:=.own `i') (t':=s.toks) (fun b u q=>ap _ q) (ax _) #[_,e1];refine I1.laid (fun b u q=>ap _ q) (jg (b8 _ _)) ?_;have ne:s.heap.objs.size≠s.heap.objs.size+1:=cF (iJ _);refine#[by rw[aZ ne,aq],aN _,ne,e2,fun _=>none,(Heap.Ns1.of_empty e3).at fun o q=>ap _ q,fun _=>True.intro,fun y hy=>absurd rfl hy]
def SX (hb:attributeBase e f env (eval e env)=eval e env)
 (h:wpAny `C' A (eval e env) (fun o s₁=>wpAny `C' A (getAttr o f true) Q E s₁) E s):wpAny `C' A (eval (.Attribute e f pos) env) Q E s:=
 Attribute_any_ h (by rw[arm_eval_Attribute,hb])
end
def Sc (K:ai) (ta:TE) (f:Str):TE:=fun σ H Q=>ta σ H fun x H1=>∃a C dx fs v,x= .ref a/\H1 a=some `fk'/\OZ K C/\j6 K C f/\fs.lookup f=some v/\Q v H1
def act (K:ai) (ta tv:TE) (f:Str):TS:=fun D σ H=>tv σ H fun y H1=>ta σ H1 fun x H2=>∃a C dx fs,x= .ref a/\H2 a=some `fk'/\OZ K C/\j6 K C f/\fs.length<1000/\
 D.nx σ (bO H2 a (.ins C dx (rT f y fs)))
section
variable {X:Cx} {o e qg:Expr} {f:Str} {pos wq GS:Pos} {ta tv:TE}
def bq (he:PE X e ta) (hb:attributeBase e f X.env `kZ'=eval e X.env):PE X (.Attribute e f pos) (Sc X.K ta f):=by
 show 3;refine SX hb (iH `bQ' fun u s1 ⟨x,H1,I1,rx,a,C,dx,fs,v,ex,ea,c,n,l,q⟩=>?_);show 85;exact HV I1 ea c n l fun u' s2 I2 ru=>#[v,H1,I2,ru,q]
def ow (ha:PE X o ta) (hv:PE X qg tv) (hs:swapsWith qg (some (.Attribute o f wq)) pos.line X.env=pure false):PS X (.Assign [.Attribute o f wq] qg pos) (act X.K ta tv f):=by
 show 13;refine plainObj_wpAny_Assign_Attribute (iH (hv pins s σ H _ I h) fun u s1 ⟨y,H1,I1,ry,q⟩=>iH (ha pins s1 σ H1 _ I1 q) fun ov s2 ⟨x,H2,I2,rx,a,C,dx,fs,ex,ea,c,n,l,q2⟩=>?_) hs;show 85;exact Hi I2 ea c n l ry fun s3 I3=>#[σ,_,I3,q2]
end
structure Room (k:Nat) (A:dY):Prop where
 hd:A.handled=none
 dp:A.depth+3*k+5<recursionLimit
 un:A.units+16*k+200<cLine
def Room.mono {j k:Nat} {A:dY} (r:Room k A) (h:j<=k):Room j A:=#[r.hd,by have:=r.dp;omega,by have:=r.un;omega]
def Room.deeper {k:Nat} {A:dY} (r:Room (k+1) A) (env:Env):Room k (A.deeper env):=
 #[r.hd,by have:=r.dp;show A.depth+1+3*k+5<_;omega,by have:=r.un;show A.units+3+16*k+200<_;omega]
def HP {A:dY} {C:ak} {us:List aA} {kw:List (Str×aA)}:(A.under `b8').depth=A.depth+1:=by
 first|rfl|simp[Around.under,Code.weight,Code.isCreation,Code.isGuard,Code.isCaller,Code.frames,isFrame,guardIds]
def GZ {A:dY} {C:ak} {us:List aA} {kw:List (Str×aA)}:(A.under `b8').units=A.units+1:=by
 first|rfl|simp[Around.under,Code.cUnits,Code.frames,isFrame]
def Room.make {k:Nat} {A:dY} (r:Room (k+1) A) (C:ak) (us:List aA) (kw:List (Str×aA)):Room k (A.under `b8'):=
 #[r.hd,by have:=r.dp;rw[HP];omega,by have:=r.un;rw[GZ];omega]
def Room.depth {k:Nat} {A:dY} (r:Room k A):A.depth<recursionLimit:=by have:=r.dp;omega
def Room.units {k:Nat} {A:dY} (r:Room k A):A.units+64<cLine:=by have:=r.un;omega
def AQ:TA:=fun _ H Q=>Q [] H
def sq (ta:TE) (tr:TA):TA:=fun σ H Q=>ta σ H fun x H1=>tr σ H1 fun xs H2=>Q (x::xs) H2
section
variable {X:Cx} {e:Expr} {es:List Expr} {te:TE} {t:TA} {pos:Pos}
def aB:PA X [] AQ:=fun _ _ _ _ H Q I h=>kD #[[],H,I,.nil,h]
def aa (ha:PE X e te) (hr:PA X es t) (hs:starEach `dH' X.env=(false,eval e X.env)::starEach es X.env:=by rfl):PA X `dH' (sq te t):=by
 intro pos pins s σ H Q I h;rw[hs];refine iR (iH `aZ' fun u s1 ⟨x,H1,I1,r1,q1⟩=>?_);exact iH `mA' fun us s2 ⟨xs,H2,I2,r2,q2⟩=>`mI'
def P1 (t:TA):TE:=fun σ H Q=>t σ H fun xs H1=>xs.length<=sizeLine/\∀p,H1 p=none->Q `dR' (bO H1 p `cd')
def acv (t:TA):TE:=fun σ H Q=>t σ H fun xs H1=>xs.length<=sizeLine/\∀p,H1 p=none->Q `dR' (bO H1 p `bh')
def eP {x1} (h:PA X es t):PE X (.Tuple es x1 pos) (P1 t):=by
 intro pins s σ H Q I hq;refine wpAny_Tuple_spliced `dn';have hf:=I1.hok.fresh (ax _);refine#[.ref s1.heap.objs.size,bO H1 s1.heap.objs.size `cd',I1.laid (fun b u e=>ap _ e) (ax _) ?_,rfl,q _ hf];exact#[z,us,r,#[_,a7 _ rfl,rfl,_,rfl]]
def db (h:PA X es t):PE X (.List es pos) (acv t):=by
 intro pins s σ H Q I hq;refine wpAny_List_spliced `dn';have hf:=I1.hok.fresh (ax _);refine#[.ref s1.heap.objs.size,bO H1 s1.heap.objs.size `bh',I1.laid (fun b u e=>ap _ e) (ax _) ?_,rfl,q _ hf];exact#[z,us,0,r,a7 _ rfl]
end
abbrev Sp:=List V->Hp->VK->XK->Prop
abbrev yx:=List Env->Hp->aS->XK->aA->aS->Prop
structure Bv (P:bN) (w:cV) (K:ai) (mg:Str->Option aA) (base:cZ) (A:dY) (outer:List Env) (s:aS) (H:Hp):Prop where
 frames:A.frames=some outer
 mod:Mod K mg base
 bs:∀b o,base.get? b=some o->s.heap.get? b=some o/\H b=none
 bsz:base.objs.size<=s.heap.objs.size
 funs:s.heap.FunFrames base outer
 frf:∀b∈Ig outer,H b=none
 hok:sG P w H s.heap
 bare:AllBare s.gens
def CE (outer:List Env) (P:bN) (w:cV) (H:Hp) (s:aS) (Q:VK) (u:aA) (s':aS):Prop:=
 ∃v H',s'.os=s.os/\AllBare s'.gens/\Un (Ig outer) [] H H' s.heap s'.heap/\sG P w H' s'.heap/\ff v u/\Q v H'
def CR (CX:yx) (outer:List Env) (P:bN) (w:cV) (H:Hp) (s:aS) (Q:VK) (E:XK) (r:Result) (s':aS):Prop:=
 match r with
 | .ok (.ret u)=>CE outer P w H s Q u s'
 | .ok _=>False
 | .error e=>CX outer H s E e s'
structure bT (P:bN) (w:cV) (K:ai) (mg:Str->Option aA) (base:cZ) (CX:yx) (k:Nat) (f:ak) (fd:aH) (ps:List Str) (sp:Sp):Prop where
 len:∀vs H Q E,sp vs H Q E->vs.length=ps.length
 run:∀(A:dY) (outer:List Env) (s:aS) (H:Hp) (args:Args) (us:List aA) (vs:List V) (Q:VK) (E:XK),Room k A->Bv P w K mg base A outer s H->BindsTo s fd args `fc'->dy vs us->sp vs H Q E->
  codeAny `gG' A (.call `bA' args) (CR CX outer P w H s Q E) s
def bT.mono {P:bN} {w:cV} {K:ai} {mg:Str->Option aA} {base:cZ} {CX:yx} {j k:Nat} {f:ak} {fd:aH} {ps:List Str} {sp:Sp} (F:bT P w K mg base CX j f fd ps sp) (h:j<=k):
 bT P w K mg base CX k f fd ps sp:=#[F.len,fun A outer s H args us vs Q E hr=>F.run A outer s H args us vs Q E (hr.mono h)]
def Bv.make {P:bN} {w:cV} {K:ai} {mg:Str->Option aA} {base:cZ} {A:dY} {outer:List Env} {s:aS} {H:Hp} (e:Bv P w K mg base A outer s H) (C:ak) (us:List aA) (kw:List (Str×aA)):
 Bv P w K mg base (A.under `b8') outer s H:=#[by first|exact e.frames| (simpa[Around.under,Code.envs,isFrame,pushEnvs] using e.frames),e.mod,e.bs,e.bsz,e.funs,e.frf,e.hok,e.bare]
section
variable {X:Cx} {pins:List (ak×Obj)} {σ:St} {H:Hp} {s s':aS}
def cB.env0 (I:cB X pins σ H s):Bv X.prog X.w X.K X.mg X.base X.A X.stack s H:=
 #[I.ok.frames,I.ok.mod,I.bs,aU I.ok.bsz I.sz,I.stack,I.stkFree,I.hok,I.bare]
def cB.after {Q:VK} {u:aA} (I:cB X pins σ H s) (h:CE X.stack X.prog X.w H s Q u s'):EP X pins σ Q u s':=by
 obtain⟨v,H',os,bare,un,hok,r,q⟩:=h;obtain⟨hh,g,d,t,os'⟩:=s';obtain rfl:=os;exact#[v,H',I.call un hok bare (fun b z=>absurd z `S'),r,q]
end
def ZX (sp:Sp) (dvs:List V) (E:XK) (t:TA):TE:=fun σ H Q=>t σ H fun vs H1=>sp `lm' H1 Q E
def aal (C:ak) (m:Str) (sp:Sp) (dvs:List V) (E:XK) (ta:TE) (t:TA):TE:=fun σ H Q=>ta σ H fun x H1=>∃a dx fs,x= .ref a/\H1 a=some `fk'/\fs.lookup m=none/\
 t σ H1 fun vs H2=>sp (x::`lm') H2 Q E
def TQ (C:ak) (sp:Sp) (dvs:List V) (E:XK) (t:TA):TE:=fun σ H Q=>t σ H fun vs H1=>∀x dx,H1 x=none->H1 dx=none->dx≠x->
 sp (.ref x::`lm') (bO (bO H1 dx `i3') x (.ins C dx [])) `k6' E
def fV (K:ai) (fd:aH) (ps:List Str) (ds:List aA):Prop:=
 ∀(s:aS) (us:List aA),K.In s.heap->(us++ds).length=ps.length->BindsTo s fd `hZ' (ps.zip (us++ds))
def fV.all {K:ai} {fd:aH} {ps:List Str} (h:∀us:List aA,us.length=ps.length->bindArgs fd `hZ'=pure `fc'):fV K fd ps []:=fun s us _ hl=>by
 rw[bU] at hl⊢
 exact .of_eq (h us hl)
def pR (CX:yx) (X:Cx) (E:XK):Prop:=∀(pins:List (ak×Obj)) (σ:St) (H:Hp) (s:aS) (e:aA) (s':aS),cB X pins σ H s->CX X.stack H s E e s'->X.xe e s'
section
variable {X:Cx} {CX:yx} {k:Nat} {f C:ak} {fd:aH} {ps:List Str} {sp:Sp} {dvs:List V} {ds:List aA} {E:XK} {x m:Str} {p pos apos:Pos} {e o:Expr} {es:List Expr} {ta:TE} {t:TA}
def DY {pins:List `cQ'} {σ:St} {H:Hp} {s:aS} {Q:VK} {us:List aA} {vs:List V} (F:bT X.prog X.w X.K X.mg X.base CX k f fd ps sp) (hr:Room k X.A) (hb:fV X.K fd ps ds) (hd:dy dvs ds) (hx:pR CX X E)
 (I:cB X pins σ H s) (r:dy vs us) (h:sp `lm' H Q E):wpAny `Tm X.A (call `bA' us) `bg' X.xe s:=by
 have r2:=r.append hd;have hl:(us++ds).length=ps.length:=by rw[<-r2.length];exact F.len _ _ _ _ h
 refine wpAny_call (mB (F.run X.A X.stack s H `hZ' (us++ds) `lm' Q E hr I.env0 (hb s us I.kIn hl) r2 h) fun r s' hq=>?_);cases r with
 |error e=>exact hx pins σ H s e s' I hq
 |ok fl=>
  cases fl with
  |ret u=>exact I.after hq
  |next=>exact False.elim hq
  |brk=>exact False.elim hq
  |cont=>exact False.elim hq
def bZ (F:bT X.prog X.w X.K X.mg X.base CX k f fd ps sp) (hr:Room k X.A) (hg:Gl X x) (hm:X.mg x=some `bA') (hk:keepIn X.K `bA'=true) (hb:fV X.K fd ps ds) (hd:dy dvs ds) (hx:pR CX X E)
 (ha:PA X `dH' t) (Ex:`az'=false:=by decide) (he:starEach `dH' X.env=(false,eval e X.env)::starEach es X.env:=by rfl) (sI:(backTo pos `a0').any (·.1)=false:=by rfl):
 PE X `aG' (ZX sp dvs E t):=by
 show 3;refine dX `hV';refine lZ I.ok.mod.kin hk `bB' he sI;exact DY F hr hb hd hx I1 r q
def qr {pl:Sem Bool} (he:PE X o ta) (c:OZ X.K C) (hm:SG X.K C m f) (F:bT X.prog X.w X.K X.mg X.base CX k f fd ps sp) (hr:Room k X.A) (hb:fV X.K fd ps ds) (hd:dy dvs ds) (hx:pR CX X E) (ha:PA X `dH' t)
 (uk:starEach `dH' X.env=(false,eval e X.env)::starEach es X.env:=by rfl) (sI:(backTo pos `a0').any (·.1)=false:=by rfl)
 (ht:eval (.Call (.Attribute o m apos) `dH' [] pos) X.env=(do
  let ov<-eval o X.env
  standAt apos.atName
  let(f,first)<-holding [ov] (getMethod ov m pl)
  callWith pos f first (backTo pos (starEach `dH' X.env)) (backToKw pos `gc')):=by rfl):
 PE X (.Call (.Attribute o m apos) `dH' [] pos) (aal C m sp dvs E ta t):=by
 show 3;refine PySem.W.methodCall_KW (iH `bQ' fun u s1 ⟨x,H1,I1,rx,a,dx,fs,ex,ea,l,q⟩=>?_) ht;show 85;refine IT I1 ea c hm l ?_;refine lZ I.ok.mod.kin hm.kp (iH (ha pos pins s1 σ H1 _ I1 q) fun us s2 ⟨vs,H2,I2,r,q2⟩=>#[I2.kIn,?_]) uk sI;exact DY (vs:=.ref a::vs) F hr hb hd hx I2 (.cons rfl r) q2
structure Mk (K:ai) (C f:ak):Prop where
 makes:PySem.W.makesIn K C=true
 init:PySem.W.findIn K `fM' "__init__"=some (some `bA')
 fn:PySem.W.isFn K `bA'=true
 kp:keepIn K `fM'=true
def Fx {pins:List `cQ'} {σ:St} {H:Hp} {s:aS} {Q:VK} {us:List aA} {vs:List V} (M:Mk X.K C f) (F:bT X.prog X.w X.K X.mg X.base CX k f fd ps sp) (hr:Room (k+1) X.A) (hb:fV X.K fd ps ds) (hd:dy dvs ds)
 (hx:pR CX X E) (I:cB X pins σ H s) (r:dy vs us)
 (h:∀x dx,H x=none->H dx=none->dx≠x->sp (.ref x::`lm') (bO (bO H dx `i3') x (.ins C dx [])) `k6' E):
 wpAny `Tm X.A (call `fM' us) `bg' X.xe s:=by
 have hq:=h `i' s.heap.objs.size (I.hok.fresh (Nat.le_succ _)) `cj' (cF (iJ _));have I2:=cB.made (C:=C) I;have r2:dy (V.ref `i'::`lm') (Value.ref `i'::(us++ds)):=.cons rfl (r.append hd);have hl:(Value.ref `i'::us++ds).length=ps.length:=by
  have e:=r2.length;rw[F.len _ _ _ _ hq] at e;exact e.symm
 refine wpAny_call (Qh I.kIn M.makes M.init (gv.mp M.fn) (mB (F.run _ X.stack _ _ ⟨Value.ref `i'::us,[]⟩ (Value.ref `i'::(us++ds)) _ _ E (hr.make C us [])
  (I2.env0.make C us []) (hb _ (Value.ref `i'::us) I2.kIn hl) r2 hq) fun r s' sw=>?_))
 cases r with
 |error e=>exact hx pins σ _ _ e s' I2 sw
 |ok fl=>
  cases fl with
  |ret u=>
   obtain⟨v,H',I3,rv,ev,q3⟩:=I2.after sw;subst ev;exact#[rv,#[V.ref `i',H',I3,rfl,q3]]
  |next=>exact False.elim sw
  |brk=>exact False.elim sw
  |cont=>exact False.elim sw
def C3 (M:Mk X.K C f) (F:bT X.prog X.w X.K X.mg X.base CX k f fd ps sp) (hr:Room (k+1) X.A) (hg:Gl X x) (hm:X.mg x=some `fM') (hb:fV X.K fd ps ds) (hd:dy dvs ds) (hx:pR CX X E)
 (ha:PA X `dH' t) (Ex:`az'=false:=by decide) (he:starEach `dH' X.env=(false,eval e X.env)::starEach es X.env:=by rfl) (sI:(backTo pos `a0').any (·.1)=false:=by rfl):
 PE X `aG' (TQ C sp dvs E t):=by
 show 3;refine dX `hV';refine lZ I.ok.mod.kin M.kp `bB' he sI;exact Fx M F hr hb hd hx I1 r q
def O1 (M:Mk X.K C f) (F:bT X.prog X.w X.K X.mg X.base CX k f fd ps sp) (hr:Room (k+1) X.A) (hg:Gl X x) (hm:X.mg x=some `fM') (hb:fV X.K fd ps ds) (hd:dy dvs ds) (hx:pR CX X E)
 (Ex:`az'=false:=by decide):PE X (.Call (.Name x p) [] [] pos) (TQ C sp dvs E AQ):=by
 show 3;refine dX `hV';exact PySem.W.callWith_K0 I.kIn M.kp (Fx M F hr hb hd hx I .nil h)
end
def PK (X:Cx) (QP:List Keyword) (t:TA):Prop:=
 ∀(pos:Pos) (pins:List (ak×Obj)) (s:aS) (σ:St) (H:Hp) (Q:List V->Hp->Prop),cB X pins σ H s->t σ H Q->wpAny `Tm X.A (evalAll ((backToKw pos `gb').map (·.2))) (AP X pins σ Q) X.xe s
section
variable {X:Cx} {CX:yx} {k:Nat} {f C:ak} {fd:aH} {ps ks:List Str} {sp:Sp} {E:XK} {x m:Str} {p pos apos abe:Pos} {e o:Expr} {es:List Expr} {QP:List Keyword} {te ta:TE} {t tk:TA} {nm:Option Str}
def G6:PK X [] AQ:=fun _ _ _ _ H Q I h=>wpAny_evalAll_nil #[[],H,I,.nil,h]
def D1 (ha:PE X e te) (hr:PK X QP t):PK X (#[nm,e,abe]::QP) (sq te t):=by
 intro pos pins s σ H Q I h;refine wpAny_evalAll_cons (ah (iH `aZ' fun u s1 ⟨x,H1,I1,r1,q1⟩=>ah (wpAny_standAt `cS')));exact iH `mA' fun us s2 ⟨xs,H2,I2,r2,q2⟩=>`mI'
variable {g:List aA->List aA->List aA} {gV:List V->List V->List V}
end
structure bY (N P:List Str) (sc:ju):Prop where
 kind:sc.kind= .function
 co:sc.isCoroutine=false
 gen:sc.isGenerator=false
 nd:N.Nodup
 pre:N.take P.length=P
 par:∀x∈P,sc.names.lookup x=some .local\/sc.names.lookup x=some .cell
 nofree:∀y∈sc.names,y.2≠ .free
def BZ {kindOf:Str->Option NameKind} {x:Str}:∀{binds:List (Str×aA)} {m:Str->Option aA},(∀v,(x,v)∉binds)->bindL kindOf binds m x=m x
 | [],_,_=>rfl
 | (n,v)::r,m,h=>by
  unfold bindL;rw[BZ fun w hw=>h w (aK _ hw)]
  split
  ·have:x≠n:=by rintro rfl;exact h v aI
   simp[this]
  ·rfl
def B3 {kindOf:Str->Option NameKind} {x:Str}:∀{binds:List (Str×aA)} {m:Str->Option aA},(∀v,(x,v)∉binds)->bindC kindOf binds m x=m x
 | [],_,_=>rfl
 | (n,v)::r,m,h=>by
  unfold bindC;rw[B3 fun w hw=>h w (aK _ hw)]
  split
  ·rfl
  ·have:x≠n:=by rintro rfl;exact h v aI
   simp[this]
def CK {kindOf:Str->Option NameKind} {x:Str} {v:aA}:∀{P:List Str} {vs:List aA} {i:Nat} {m:Str->Option aA},P.Nodup->P[i]? =some x->vs[i]? =some v->kindOf x=some .local->
 bindL kindOf (P.zip vs) m x=some v
 | [],_,_,_,_,h,_,_=>by simp at h
 |_::_,[],_,_,_,_,h,_=>by simp at h
 |p::P,w::vs,0,m,nd,h1,h2,hk=>by
  simp at h1 h2;subst h1;subst h2;show bindL kindOf `io' m p=_;unfold bindL;rw[BZ fun v hv=>(fk.mp nd).1 (of_mem_zip hv).1,aD hk];simp
 |p::P,w::vs,i+1,m,nd,h1,h2,hk=>by
  show bindL kindOf `io' m x=_;unfold bindL;exact CK (i:=i) (fk.mp nd).2 (by simpa using h1) (by simpa using h2) hk
def Cg {kindOf:Str->Option NameKind} {x:Str} {v:aA}:∀{P:List Str} {vs:List aA} {i:Nat} {m:Str->Option aA},P.Nodup->P[i]? =some x->vs[i]? =some v->kindOf x≠some .local->
 bindC kindOf (P.zip vs) m x=some v
 | [],_,_,_,_,h,_,_=>by simp at h
 |_::_,[],_,_,_,_,h,_=>by simp at h
 |p::P,w::vs,0,m,nd,h1,h2,hk=>by
  simp at h1 h2;subst h1;subst h2;show bindC kindOf `io' m p=_;unfold bindC;rw[B3 fun v hv=>(fk.mp nd).1 (of_mem_zip hv).1,au hk];simp
 |p::P,w::vs,i+1,m,nd,h1,h2,hk=>by
  show bindC kindOf `io' m x=_;unfold bindC;exact Cg (i:=i) (fk.mp nd).2 (by simpa using h1) (by simpa using h2) hk
def start (N:List Str) (vs:List V):St:=vs.map some++replicate (N.length - vs.length) none
def Gv (CX:yx) (P:bN) (w:cV) (K:ai) (mg:Str->Option aA) (base:cZ) (N:List Str) (qual:Str) (scope:ju) (f:ak) (cd:aA) (A:dY) (outer:List Env) (s:aS) (H:Hp) (E:XK):Cx where
 prog:=P
 w:=w
 K:=K
 mg:=mg
 base:=base
 A:=A.deeper `ed'
 N:=N
 s_0:=s
 H_0:=H
 env:=envOfC qual scope s.heap.objs.size f cd
 outer:=outer
 stack:=envOfC qual scope s.heap.objs.size f cd::outer
 ex:=[]
 calm:=true
 fn:=fun _=>true
 pn:=[]
 xe:=fun e s'=>wpAny `gG' (A.deeper `ed') (leaving `ed' e) `ma' `lA' s'
def Gq {sc:ju} {n:Nat} {x:Str} (h:sc.names.lookup x=some .cell):∃c,(cellsFrom n sc.names []).lookup x=some c:=by
 have q:=PySem.W.cellsFrom_some sc.names n [] (.inl h);exact jr.mp q
def Lw {CX:yx} {P:bN} {w:cV} {K:ai} {mg:Str->Option aA} {base:cZ} {N ps:List Str} {qual:Str} {scope:ju} {f:ak} {cd:aA} {A:dY} {outer:List Env} {s s1:aS} {H:Hp} {E:XK} {us:List aA} {vs:List V}
 (S:bY N ps scope) (hd:A.handled=none) (e0:Bv P w K mg base A outer s H) (hl:vs.length=ps.length) (r:dy vs us)
 (x:InCallC s s.heap.objs.size (bindL (envOfC qual scope s.heap.objs.size f cd).kindOf `fc' fun _=>none) (cellsFrom `i' scope.names []) (bindC (envOfC qual scope s.heap.objs.size f cd).kindOf `fc' fun _=>none) s1):
 cB (Gv CX P w K mg base N qual scope f cd A outer s H E) [] `ii' H s1:=by
 have sI:ps.length<=N.length:=by have:=dH List.length S.pre;rw[be] at this;omega
 obtain⟨h1,tk,rfl,hk⟩:=x.done;have UO:∀b:ak,b∉(Gv CX P w K mg base N qual scope f cd A outer s H E).ex:=fun b z=>absurd `gj' `S';refine⟨⟨e0.mod,S.kind,rfl,rfl,ax _,fun y z c h1 h2=>?_,fun y hy=>?_,fun y c _ h=>?_,fun _=>hd,Around.frames_deeper e0.frames,.inr ⟨rfl,rfl⟩,fun b z=>absurd z (UO b),e0.bs,e0.bsz,fun b _ _=>UO b,fun b z=>absurd z (UO b),e0.funs,e0.frf⟩,
  rfl,e0.bare,Un.kept hk,#[_,x.toInCall.ns,fun i y v h1 h2 h3=>?_],fun y c h=>#[_,x.cell y c h],e0.hok.fresh (ax _),fun y c h=>?_,fun p hp=>absurd (show p∈([]:List `cQ') from hp) `S',e0.hok.kept hk,?_⟩
 ·exact name_of_addr x.apart (bJ h1) (bJ h2)
 ·have hy:=hy;rcases hy with hy|hy
  ·exact Gq hy
  ·exact absurd rfl (S.nofree _ (bJ hy))
 ·exact eo (x.above y c (bJ h))
 ·have hi:i<vs.length:=by
   unfold start at h2;by_cases hi:i<vs.length
   ·exact hi
   ·rw[df (by simpa using hi)] at h2;rw[gh] at h2
    split at h2<;>cases h2
  have ha:vs[i]? =some v:=by
   unfold start at h2;rw[cq (by simpa using hi),aR] at h2;cases e:vs[i]? with
   |none=>rw[e] at h2;cases h2
   |some a=>rw[e] at h2;cases h2;rfl
  obtain⟨u,hu,rv⟩:=r.get ha;have hp:ps[i]? =some y:=by
   rw[<-S.pre,eX `mt];exact h1
  have ndP:ps.Nodup:=by rw[<-S.pre];exact S.nd.sublist (List.take_sublist _ _)
  refine#[u,rv,?_];rcases S.par y (aQ hp) with k|k
  ·exact .inl #[k,CK ndP hp hu k]
  ·obtain⟨c,e⟩:=Gq k;refine .inr #[.inl k,c,e,?_];have q:=x.cell y c e;rw[Cg ndP hp hu (by show scope.names.lookup y≠_;rw[k];decide)] at q;exact q
 ·exact e0.hok.fresh (eo (x.above y c (bJ h)))
 ·unfold start;show _=N.length;rw[aE,ae,bo];omega
def TR {CX:yx} {P:bN} {w:cV} {K:ai} {mg:Str->Option aA} {base:cZ} {k:Nat} {f:ak} {name qual:Str} {params:Arguments} {body:List du} {scope:ju} {dV kV doc pm cdv ct oc:aA} {an od:Option ak}
 {osl:Array `hN'} {N ps:List Str} {sp:Sp} (lk:K.lookup f=some #[oc,od,.func `fh',osl]) (xr:PySem.W.codeIn K cdv qual=true) (S:bY N ps scope)
 (len:∀vs H Q E,sp vs H Q E->vs.length=ps.length)
 (u9:∀(A:dY) (outer:List Env) (s:aS) (H:Hp) (vs:List V) (Q:VK) (E:XK),Room k (A.deeper (envOfC qual scope s.heap.objs.size f cdv))->sp vs H Q E->
  ∃t,Hl `cN' body t/\t {nx:=fun _ H'=>Q .non H',rt:=Q} `ii' H):
 bT P w K mg base CX (k+1) f `fh' ps sp:=by
 show 185;have KX:K.In s.heap:=e0.mod.kin.keeps fun b o e=>(e0.bs b o e).1;have lim:s.heap.NoLimit:=e0.mod.nolimit.keeps fun b o e=>(e0.bs b o e).1;have Xv:∀y∈ps.zip us,scope.names.lookup y.1=some .local\/(scope.names.lookup y.1=some .cell/\((cellsFrom `i' scope.names []).lookup y.1).isSome=true):=fun⟨n,v⟩ hy=>by
  rcases S.par n (of_mem_zip hy).1 with q|q
  ·exact .inl q
  ·exact .inr #[q,PySem.W.cellsFrom_some _ _ _ (.inl q)]
 refine codeAny_call_function hr.depth (KX _ _ lk) rfl S.co S.gen rfl (PySem.W.codeRec_of KX xr) (hb _ _ _ _ ?_);refine wpAny_newFunctionEnv_cells S.kind Xv fun env he s1 x=>?_;subst he;refine#[lim.keeps x.toInCall.keep,codeAny_func ?_];obtain⟨t,ht,hq⟩:=u9 A outer s H vs Q E (hr.deeper _) BE;have I:cB `cN' [] `ii' H s1:=Lw S hr.hd e0 hl r x;refine fH (ht [] s1 `ii' H _ I hq) (fun fl s' hs=>?_) fun e s' hs=>hs;have oH:∀{σ':St} {H':Hp} {v:V} {u:aA},cB `cN' [] σ' H' s'->ff v u->Q v H'->CE outer P w H s Q u s':=
  fun{σ' H' v u} J rv q=>`eK'
 cases fl with
 |ret u=>
  obtain⟨v,σ',H',J,rv,q⟩:=hs;exact oH J rv q
 |next=>
  obtain⟨σ',H',J,q⟩:=hs;exact oH (v:=V.non) (u:=Value.none) J rfl q
 |brk=>
  show 220;exact False.elim q
 |cont=>
  show 220;exact False.elim q
section
variable {X:Cx} {x:Str} {p pos:Pos} {e:Expr} {es:List Expr} {t:TA} {id T:String} {r:List V->Hp->VK->Prop}
def tCB (r:List V->Hp->VK->Prop) (t:TA):TE:=fun σ H Q=>t σ H fun vs H1=>r vs H1 Q
def dq (hc:rf X `e4' r) (hg:Gl X x) (hm:X.mg x=none) (hv:bootBuiltins x=some `e4') (ha:PA X `dH' t) (hn:x≠"__name__":=by decide) (Ex:`az'=false:=by decide)
 (he:starEach `dH' X.env=(false,eval e X.env)::starEach es X.env:=by rfl) (sI:(backTo pos `a0').any (·.1)=false:=by rfl):PE X `aG' (tCB r t):=by
 show 3;refine dX (mT I hg hm hv ?_ hn Ex);exact PyProof.Rows.callWith_builtin1 `dh' he sI
def mw (hc:rf X (.type T) r) (hg:Gl X x) (hm:X.mg x=none) (hv:bootBuiltins x=some (.type T)) (ha:PA X `dH' t) (hn:x≠"__name__":=by decide) (Ex:`az'=false:=by decide)
 (he:starEach `dH' X.env=(false,eval e X.env)::starEach es X.env:=by rfl) (sI:(backTo pos `a0').any (·.1)=false:=by rfl):PE X `aG' (tCB r t):=by
 show 3;refine dX (mT I hg hm hv ?_ hn Ex);exact b7 `dh' he sI
end
end L2
namespace HT
open PySem PyProof.Rows
section
variable {prog:bN} {w:cV} {A:dY} {E:aA->aS->Prop} {s:aS}
def cat_tup (ht:IsTup s.heap t vs.toArray) (hb:IsTup s.heap b ws.toArray) (hv:vs≠[])
 (h1:ws=[]->Q `h2' s) (h2:ws≠[]->Q `ai' {s with heap:=s.heap.push {cls:=.type "tuple",data:=.seq (vs++ws).toArray}})
 (hsz:vs.length+ws.length<=sizeLine):wpAny `C' A (binaryOp .Add `h2' `i4') Q E s:=by
 obtain⟨⟨cls,dd,data,sl⟩,ho,hc,n,hd⟩:=id ht;obtain⟨⟨abo,dd2,data2,sl2⟩,UT,Ek,n2,hd2⟩:=id hb;subst hc hd Ek hd2;have e:vs.toArray++ws.toArray=(vs++ws).toArray:=by simp
 by_cases hw:ws=[]
 ·exact concat_meets `gE' #[_,UT,rfl] noFill_tuple_add seq_tuple_add mC mr (lL _ _)
   (tuple_addW1 t b vs.toArray ws.toArray n n2 dd dd2 sl sl2 `kW' (by simp[hw])) #[ho,UT,h1 hw]
 ·refine concat_meets `gE' #[_,UT,rfl] noFill_tuple_add seq_tuple_add mC mr (lL _ _)
   (tuple_addW2 t b vs.toArray ws.toArray n n2 dd dd2 sl sl2 `kW' (by simpa using hw) (by rw[bn,bn];exact hsz)) #[ho,UT,?_]
  rw[e];exact h2 hw
def sIx (n d:Nat):Option Int->Nat
 |none=>d
 |some v=>if v<0 then(v+(n:Int)).toNat else min v.toNat n
def sIx_none (n d:Nat):sIx n d none=d:=rfl
def sIx_nat (n d k:Nat):sIx n d (some (k:Int))=min k n:=by
 show(if(k:Int)<0 then((k:Int)+(n:Int)).toNat else min (k:Int).toNat n)=min k n;rw[au `mt,bL]
def U8 (n d:Nat) (hd:d<=n) (o:Option Int):sIx n d o<=n:=by
 cases o with
 |none=>exact hd
 |some v=>
  show `hj'<=n;by_cases hv:v<0
  ·rw[aD hv];omega
  ·rw[au hv];exact Nat.min_le_right _ _
def Ks (v:Int) (n d:Nat):`g6'=((sIx n d `eG':Nat):Int):=by
 show `g6'=((`hj':Nat):Int)
 by_cases hv:v<0
 ·simp only[aD hv];omega
 ·simp only[au hv];omega
def IN (lo hi:Option Int) (n:Nat):sliceAdjust lo hi 1 (n:Int)=(((sIx n 0 lo:Nat):Int),((sIx n n hi:Nat):Int)):=by
 have h1:¬((1:Int)<0):=by omega
 refine Prod.ext ?_ ?_
 ·cases lo with
  |none=>rfl
  |some v=>exact Ks v n 0
 ·cases hi with
  |none=>rfl
  |some v=>exact Ks v n n
def Iy (i j:Nat):slicePlaces (i:Int) (j:Int) 1=j - i:=by
 unfold slicePlaces;have h1:(1:Int)>0:=by omega
 split<;>omega
def yS (p:IsPart v o) (h:Q o s):wpAny `C' A (Builtin.Slice.slicePartIndex v) Q E s:=by
 cases p with
 |none=>exact slicePart_none h
 |int i t=>exact slicePart_int h
def sliceApplied_gen {lo hi:Option Int} {Q:Int×Int×Nat->aS->Prop} (hs:s.heap.IsSliceOf sl vl vu .none) (pl:IsPart vl lo) (pu:IsPart vu hi)
 (h:Q (((sIx n 0 lo:Nat):Int),1,sIx n n hi - sIx n 0 lo) s):wpAny `C' A (Builtin.Slice.sliceApplied `mJ' (pure (n:Int))) Q E s:=by
 obtain⟨os,KQ,tN,QG⟩:=id hs;refine ah (ah (dw KQ QG rfl (ah (dw KQ QG rfl (ah (dw KQ QG rfl `cS'))))));refine ah (slicePart_none ?_);rw[au `KK];refine ah (yS pl (ah (yS pu (ah `cS'))));show wpAny _ _ (match sliceAdjust lo hi 1 (n:Int) with| (lo,hi)=>pure (lo,(1:Int),slicePlaces lo hi 1)) _ _ s;rw[IN lo hi n];show wpAny _ _ (pure (((sIx n 0 lo:Nat):Int),(1:Int),slicePlaces ((sIx n 0 lo:Nat):Int) ((sIx n n hi:Nat):Int) 1)) _ _ s;rw[Iy];exact aJ h
def Qo (xs:Array aA) (i k:Nat):((List.range k).filterMap fun(m:Nat)=>xs[((i:Int)+(m:Int)*1).toNat]?).toArray=((xs.toList.drop i).take k).toArray:=by
 have e:(fun(m:Nat)=>xs[((i:Int)+(m:Int)*1).toNat]?)=fun m=>xs[i+m]? :=by
  funext m
  have:((i:Int)+(m:Int)*1).toNat=i+m:=by omega
  rw[this]
 rw[e];have:=pick_run xs i k;rw[List.filterMap_map] at this;have e2:((fun x=>xs[x]?)∘fun x=>i+x)=fun m=>xs[i+m]? :=rfl;rw[e2] at this;rw[this]
def getItem_tuple_cut {lo hi:Option Int} (ht:IsTup s.heap t items) (hs:s.heap.IsSliceOf sl vl vu .none) (pl:IsPart vl lo) (pu:IsPart vu hi)
 (hw:¬(sIx items.size 0 lo=0/\sIx items.size items.size hi=items.size))
 (h:Q `ai' {s with heap:=s.heap.push {cls:=.type "tuple",data:=.seq ((items.toList.drop `jT').take `aT').toArray}})
 (hsz:items.size<=sizeLine):wpAny `C' A (getItem `h2' `mJ') Q E s:=by
 have Je:sizeOk (.seq ((items.toList.drop `jT').take `aT').toArray):=by
  show((items.toList.drop `jT').take `aT').toArray.size<=sizeLine;rw[bn,be,b6,cU];omega
 have hj:sIx items.size items.size hi<=items.size:=U8 _ _ (ax _) hi;show 144
 unfold getItem
 try with_reducible refine eS ?_
 first|refine ah `cS'|skip
 refine ah (wpAny_sequenceKey ht.typeIs `KK ?_);refine ah (cX ht.typeIs dZ
  (eT dZ ht.typeIs entry_tuple_getitem ?_ (args_tuple_getitem _ _)))
 show 56;refine ah (sliceApplied_gen hs pl pu ?_);have k8:¬((((sIx items.size 0 lo:Nat):Int)==0&&(1:Int)==1&&`aT'==items.size)=true):=by
  intro q;rw[aX,aX] at q;have q1:=jC q.1.1;have q2:=jC q.2;exact hw #[by omega,by omega]
 show wpAny _ _ (if(((sIx items.size 0 lo:Nat):Int)==0&&(1:Int)==1&&`aT'==items.size)=true then _ else _) _ _ s;rw[au k8,Qo]
 first
  |exact ah (eE `gr' Je)
  |exact ah (eE (ah (aJ `gr')) Je)
  |exact ah (ah (eE (aJ `gr') Je))
  |exact ah (ah (eE `gr' Je))
end
end HT
namespace L2
open PySem PySem.Spec PyProof.Rows
abbrev TO:=St->Hp->(Option Int->Hp->Prop)->Prop
def PO (X:Cx) (e:Option Expr) (t:TO):Prop:=
 ∀(pins:List (ak×Obj)) (s:aS) (σ:St) (H:Hp) (Q:Option Int->Hp->Prop),cB X pins σ H s->t σ H Q->
  wpAny `Tm X.A (evalPart e X.env) (fun u s'=>∃o H',cB X pins σ H' s'/\IsPart u o/\Q o H') X.xe s
def yw:TO:=fun _ H Q=>Q none H
def JQ (t:TE):TO:=fun σ H Q=>t σ H fun x H1=>∃i,x= .int i/\Q (some i) H1
section
variable {X:Cx} {e:Expr} {te:TE} {lo hi:Option Expr} {tl th:TO} {pos p2:Pos}
def lU:PO X none yw:=by
 show 3;rw[evalPart_none];exact aJ #[none,H,I,.none,h]
def im (h:PE X e te):PO X (some e) (JQ te):=by
 intro pins s σ H Q I hw;rw[evalPart_some];refine iH `ji' fun u s1 ⟨x,H1,I1,r1,q1⟩=>?_;obtain⟨i,rfl,q⟩:=q1;obtain⟨t,rfl⟩:=r1;exact#[some i,H1,I1,.int i t,q]
def SlR (X:Cx) (r:V->Option Int->Option Int->Hp->VK->Prop):Prop:=
 ∀(pins:List (ak×Obj)) (s:aS) (σ:St) (H:Hp) (x:V) (v vl vu:aA) (lo hi:Option Int) (sl:ak) (Q:VK),cB X pins σ H s->ff x v->s.heap.IsSliceOf sl vl vu .none->IsPart vl lo->IsPart vu hi->r x lo hi H Q->
  ∃T id,typeLookup (.type T) "__getitem__"=pure (some `e4')/\s.TypeIs v T/\wpAny `Tm X.A (getItem v `mJ') `bg' X.xe s
def tSl (r:V->Option Int->Option Int->Hp->VK->Prop) (te:TE) (tl th:TO):TE:=fun σ H Q=>te σ H fun x H1=>tl σ H1 fun l H2=>th σ H2 fun u H3=>r x l u H3 Q
def iB (hr:SlR X r) (he:PE X e te) (hl:PO X lo tl) (hu:PO X hi th):PE X (.Subscript e (.Slice lo hi none p2) pos) (tSl r te tl th):=by
 show 3;refine Subscript_ (iH `bQ' fun v s1 ⟨x,H1,I1,r1,q1⟩=>?_);refine wpAny_Slice (iH (hl pins s1 σ H1 _ I1 q1) fun vl s2 ⟨l,H2,I2,pl,q2⟩=>iH (hu pins s2 σ H2 _ I2 q2) fun vu s3 ⟨u,H3,I3,pu,q3⟩=>?_);rw[evalPart_none];refine aJ ?_;have I4:cB X pins σ H3 {s3 with heap:=s3.heap.push {cls:=.type "slice",data:=.fields `ng'}}:=I3.kept fun b ob q=>ap _ q;obtain⟨T,id,hT,ht,hg⟩:=hr pins {s3 with heap:=s3.heap.push {cls:=.type "slice",data:=.fields `ng'}} σ H3 x v vl vu l u s3.heap.objs.size Q I4 r1 (Heap.IsSliceOf.new ..) pl pu q3;exact tail_any ht hT hg (by with_unfolding_all rfl)
def ou (xs:List V) (lo hi:Option Int):List V:=(xs.drop `iK').take `cJ'
def xM (xs:List V) (lo hi:Option Int):(ou xs lo hi).length<=xs.length:=by
 unfold ou;rw[be,b6];omega
def Fa (K:ai):V->Option Int->Option Int->Hp->VK->Prop:=fun x lo hi H Q=>∃a xs,x= .ref a/\iX K H a xs/\
 ¬`bS'/\∀p,H p=none->Q `dR' `mN'
def Be:SlR X (Fa X.K):=by
 show 88;obtain⟨a,xs,rfl,hx,hw,q⟩:=h;show 71
 refine `kA';refine HT.getItem_tuple_cut ht hs pl pu (by rw[fY];exact hw) ?_ (by rw[fY];exact hz);rw[fY];show 165;exact#[aU (xM xs lo hi) hz,_,(r.drop `iK').take `cJ',IsTup.new _ _]
def ZY (K:ai):R2:=fun x y H Q=>∃a b xs ys,x= .ref a/\y= .ref b/\iX K H a xs/\iX K H b ys/\xs≠[]/\xs.length+ys.length<=sizeLine/\
 (ys=[]->Q `bu' H)/\(ys≠[]->∀p,H p=none->Q `dR' (bO H p (.tup (xs++ys))))
def dy.nil_iff (r:dy xs us):us=[]↔xs=[]:=by
 cases r with
 |nil=>simp
 |cons _ _=>simp
def Su:E7 X `j2' (ZY X.K):=by
 show 18;obtain⟨a,b,xs,ys,rfl,rfl,ha,hb,hx,hz,q1,q2⟩:=h;show 110;refine HT.cat_tup p1 p2 (fun z=>hx (r1.nil_iff.mp z)) (fun z=>#[.ref a,H,I,rfl,q1 (r2.nil_iff.mp z)]) (fun z=>?_) (by rw[<-r1.length,<-r2.length];exact hz);refine#[.ref s.heap.objs.size,_,I.laid `eY' (ax _) ?_,rfl,q2 (fun w=>z (r2.nil_iff.mpr w)) _ `cj'];exact#[by rw[aE];exact hz,_,r1.append r2,IsTup.new _ _]
end
def O8 (n:Nat) (i:Int):Option Nat:=if 0<=i then(if i<n then some i.toNat else none) else if -(n:Int)<=i then some (i+n).toNat else none
def Oi {α:Type} (xs:List α) (i:Int):Option α:=(O8 xs.length i).bind fun j=>xs[j]?
def Kd (h:O8 n i=some j):seqIndex? i n=some j/\j<n/\ -(n:Int)<=i/\i<n:=by
 unfold O8 at h;by_cases h0:0<=i
 ·rw[aD h0] at h;by_cases h1:i<n
  ·rw[aD h1] at h;have e:=aP h;exact#[by rw[seqIndex_of h0 h1,e],by omega,by omega,h1]
  ·rw[au h1] at h;cases h
 ·rw[au h0] at h;by_cases h1: -(n:Int)<=i
  ·rw[aD h1] at h;have e:=aP h;exact#[by rw[seqIndex_neg `mt h1,e],by omega,h1,by omega]
  ·rw[au h1] at h;cases h
def Jy {α:Type} {xs:List α} {v:α} (h:Oi xs i=some v):∃j,seqIndex? i xs.length=some j/\xs[j]? =some v/\j<xs.length/\ -(xs.length:Int)<=i/\i<xs.length:=by
 unfold Oi at h;cases e:O8 xs.length i with
 |none=>rw[e] at h;cases h
 |some j=>
  rw[e] at h;obtain⟨h1,h2,h3,h4⟩:=Kd e;exact#[j,h1,h,h2,h3,h4]
def bx {α:Type} {xs:List α} {j:Nat} {v:α} (h:xs[j]? =some v):Oi xs (j:Int)=some v:=by
 have hj:=(bd.mp h).1;have e:O8 xs.length (j:Int)=some j:=by
  unfold O8;rw[aD `mt,aD `mt];simp
 unfold Oi;rw[e];exact h
def P2 {α:Type} (xs:List α) (v:α):Oi (xs++[v]) (-1)=some v:=by
 have hl:(xs++[v]).length=xs.length+1:=by simp
 have e:O8 (xs++[v]).length (-1)=some xs.length:=by
  unfold O8;rw[hl,au `KK,aD `mt]
  congr 1
  omega
 unfold Oi;rw[e];simp
def Rt (b:Expr):Prop:=∀o i,subscripted b false o i=operate [o,i] (getItem o i)
def IxR (X:Cx) (r:R2):Prop:=
 ∀(qg xq:Expr) (pins:List (ak×Obj)) (s:aS) (σ:St) (H:Hp) (x y:V) (v u:aA) (Q:VK),cB X pins σ H s->ff x v->ff y u->r x y H Q->
  subscripted xq false v u=operate [v,u] (getItem v u)->wpAny `Tm X.A (subscriptTail qg xq v u) `bg' X.xe s
def MtR (X:Cx) (id:String) (r:V->List V->Hp->VK->Prop):Prop:=
 ∀(pins:List (ak×Obj)) (s:aS) (σ:St) (H:Hp) (x:V) (xs:List V) (v:aA) (us:List aA) (Q:VK),cB X pins σ H s->ff x v->dy xs us->r x xs H Q->
  wpAny `Tm X.A (call `e4' (v::us)) `bg' X.xe s
section
variable {X:Cx} {a b:Expr} {ta tb:TE} {pos:Pos}
def bz (hr:IxR X r) (ha:PE X a ta) (hb:PE X b tb) (hs:Rt b):PE X (.Subscript a b pos) (QS r ta tb):=by
 show 3;exact Subscript_ (aai ha hb I h fun v u s2 x y H2 I2 rx ry q=>hr a b pins s2 σ H2 x y v u Q I2 rx ry q (hs _ _))
def ic (K:ai):R2:=fun x y H Q=>∃p xs i v,x= .ref p/\y= .int i/\SqL K H p xs/\Oi xs i=some v/\Q v H
def mi (K:ai):R2:=fun x y H Q=>∃p xs i v,x= .ref p/\y= .int i/\iX K H p xs/\Oi xs i=some v/\Q v H
def bi:IxR X (ic X.K):=by
 show 61;obtain⟨its,r,pl,hz⟩:=I.list hq;show 36
 by_cases h0:0<=i
 ·have hj:i.toNat=j:=by
   rw[seqIndex_of h0 h5] at h1;exact aP h1
  exact item_listR pl.isList h0 `mt (by rw[hj];simpa using ew) oH hs
 ·have hj:(i+(its.toArray.size:Int)).toNat=j:=by
   rw[seqIndex_neg `mt h4] at h1;rw[bn,<-hl];exact aP h1
  exact subscriptTail_builtinR (x:=w) pl.isList.typeIs slot_list_getitem.lookup
   (wpAny_getItem_list_neg pl.isList `mt (by rw[bn]<;>omega) `mt (by rw[hj];simpa using ew) #[rfl,oH]) hs
def ee:IxR X (mi X.K):=by
 show 61;obtain⟨its,r,pl,hz⟩:=I.tuple hq;show 36
 exact subscriptTail_builtinR pl.typeIs slot_tuple_getitem.lookup
  (getItem_tuple (j:=j) pl `mt `mt (by rw[bn,<-hl];exact h1) (by simpa using ew) #[rfl,oH]) hs
def IJ (its:List aA) (n j:Nat) (u:aA):mapSeq (·.setIfInBounds j u) {cls:=.type "list",data:=.seq its.toArray n}={cls:=.type "list",data:=.seq (its.set j u).toArray n}:=by
 simp[mapSeq]
def cB.lst (I:cB X pins σ H s) (h:H p=some `bh'):
 ∃(its:List aA) (n:Nat),dy xs its/\s.heap.get? p=some {cls:=.type "list",data:=.seq its.toArray n}/\xs.length<=sizeLine:=by
 obtain⟨z,its,n,r,e⟩:=I.hok p _ h;exact#[its,n,r,e,z]
def cB.lstUpd {its its':List aA} (I:cB X pins σ H s) (h:H p=some `bh')
 (ho:s.heap.get? p=some {cls:=.type "list",data:=.seq its.toArray n}) (hf:f {cls:=.type "list",data:=.seq its.toArray n}={cls:=.type "list",data:=.seq its'.toArray n'}) (r:dy ys its') (hz:ys.length<=sizeLine) (t:Nat):
 cB X pins σ (bO H p `cC') {s with heap:=s.heap.update p f,toks:=t}:=by
 have e:(s.heap.update p f).get? p=some {cls:=.type "list",data:=.seq its'.toArray n'}:=by
  rw[dv f ho (by rw[hf]<;>rfl),hf]
 refine I.write (by rw[h];trivial) `a8' (fun b u hb q=>(dc _ _ (je hb)).trans q) #[_,e] ?_;exact#[hz,its',n',r,e]
def aaG:V->V->V->Hp->(Hp->Prop)->Prop:=fun o i v H Q=>∃p xs k j,o= .ref p/\i= .int k/\H p=some `bh'/\O8 xs.length k=some j/\Q `nk'
def Oz:aaF X aaG:=by
 intro pins s σ H o i v ov iv u Q I ro ri rv h;obtain⟨p,xs,k,j,rfl,rfl,hp,hj,q⟩:=h;cases ro;obtain⟨t,rfl⟩:=ri;obtain⟨its,n,r,ho,hz⟩:=I.lst hp;obtain⟨h1,h2,h3,h4⟩:=Kd hj;have hl:=r.length;have hn:=DH;have I':cB X pins σ `nk' {s with heap:=s.heap.update p (mapSeq (·.setIfInBounds j u))}:=
  I.lstUpd hp ho (IJ its n j u) (r.set rv j) (by rw[eC];exact hz) s.toks
 by_cases h0:0<=k
 ·have hk:k.toNat=j:=by
   rw[seqIndex_of h0 h4] at h1;exact aP h1
  exact PySem.W.ki_setAt ho h0 `mt (by rw[bn,<-hl];exact h4) (by rw[hk];exact#[_,I',q])
 ·have hk:(k+(its.toArray.size:Int)).toNat=j:=by
   rw[seqIndex_neg `mt h3] at h1;rw[bn,<-hl];exact aP h1
  exact PySem.W.ki_setBack ho `mt (by rw[bn,<-hl];exact h3) `mt (by rw[hk];exact#[_,I',q])
def DK (lo hi:Option Int) (n:Nat):(sliceBounds lo hi none n).1=((HT.sIx n 0 lo:Nat):Int)/\(sliceBounds lo hi none n).2.1=((HT.sIx n n hi:Nat):Int)/\(sliceBounds lo hi none n).2.2=1:=by
 refine#[?_,?_,rfl]
 ·cases lo with
  |none=>simp[sliceBounds,HT.sIx]
  |some i=>
   show 113
   ·simp only[h,oI]<;>omega
   ·simp only[h,pC]<;>omega
 ·cases hi with
  |none=>simp[sliceBounds,HT.sIx]
  |some i=>
   show 113
   ·simp only[h,oI]<;>omega
   ·simp only[h,pC]<;>omega
def Bq (its:List aA) (lo hi:Option Int):slicePick its.toArray lo hi none=((its.drop (HT.sIx its.length 0 lo)).take (HT.sIx its.length its.length hi - HT.sIx its.length 0 lo)).toArray:=by
 obtain⟨h1,h2,h3⟩:=DK lo hi its.toArray.size;unfold slicePick;rw[h1,h2,h3];simp only[sliceRange_one,pick_run,bn]<;>rfl
def HB (K:ai):V->Option Int->Option Int->Hp->VK->Prop:=fun x lo hi H Q=>∃a xs,x= .ref a/\SqL K H a xs/\∀p,H p=none->Q `dR' (bO H p (.lst (ou xs lo hi)))
def nJ:SlR X (HB X.K):=by
 show 88;obtain⟨a,xs,rfl,hx,q⟩:=h;cases rx;obtain⟨its,r,ht,hz⟩:=I.list hx;have fY:=r.length;refine#["list",_,slot_list_getitem.lookup,ht.isList.typeIs,?_];refine wpAny_getItem_list_slice ht.isList hs pl pu .none `S' ?_ (by rw[bn]<;>omega);rw[Bq,<-fY];show 165;exact#[aU (xM xs lo hi) hz,_,0,(r.drop `iK').take `cJ',a7 _ rfl]
def eu:rf X `gL' (fun xs H Q=>∃p ys,xs=[.ref p]/\`l2'/\Q (.int ys.length) H):=by
 show 20;show 179;have hn:=DH;rcases hq with hq|hq
 ·show 89;exact Calls.call_len_list pl.isList `du' `gw'
 ·show 174;have fY:=r'.length;exact len_tuple pl `du' `gw'
def Ej:rf X (.type "list") (fun xs H Q=>∃p ys,xs=[.ref p]/\`l2'/\∀l,H l=none->Q `cp' (bO H l `cC')):=by
 show 20;show 179;have oH:∀(its:List aA),dy ys its->ys.length<=sizeLine->∀(h':cZ) (c':Nat),(∀b o',s.heap.get? b=some o'->h'.get? b=some o')->
  h'.get? s.heap.objs.size=some {cls:=.type "list",dict:=none,data:=.seq its.toArray c',slots:= #[]}->EP X pins σ Q `ai' {s with heap:=h'}:=fun its r' hz h' c' kp e=>
  #[.ref s.heap.objs.size,_,I.laid kp (ax _) (show kW X.prog X.w _ h' _ `cC' from#[hz,its,c',r',e]),rfl,q _ `cj']
 rcases hq with hq|hq
 ·show 89;obtain⟨o,ho,hc,n,hd⟩:=pl.isList;exact call_list_seq p `a8' ho hc hd `iU' `du'
 ·show 174;have fY:=r'.length;obtain⟨o,ho,hc,n,hd⟩:=pl;exact call_list_seq p (.inr rfl) ho hc hd `iU' `du'
def qG:rf X (.type "tuple") (fun xs H Q=>∃p ys,xs=[.ref p]/\((SqL X.K H p ys/\∀l,H l=none->Q `cp' (bO H l `eb'))\/(iX X.K H p ys/\Q `dR' H))):=by
 show 20;obtain⟨p,ys,rfl,h⟩:=h;obtain⟨u,rfl,rx⟩:=yX r;cases rx;rcases h with⟨hq,q⟩| ⟨hq,q⟩
 ·show 89;refine call_tuple_list pl.isList (fun h' kp=>?_) `du';have I1:=I.kept (t':=s.toks) kp;have I2:cB X pins σ (bO H h'.objs.size `eb') {s with heap:=h'.push {cls:=.type "tuple",data:=.seq its.toArray}}:=
   I1.laid (fun b o e=>ap _ e) (ax _) (#[hz,its,r',IsTup.new _ _])
  exact#[.ref h'.objs.size,_,I2,rfl,q _ `gq']
 ·show 174;exact call_tuple_same pl #[.ref p,H,I,rfl,q]
def tyV (K:ai) (T:String) (x:V) (H:Hp):Prop:=match x with
 | .str _=>T="str"
 | .int _=>T="int"
 | .ref p=>(T="list"/\∃xs,SqL K H p xs)\/(T="tuple"/\∃o,K.lookup p=some o/\o.cls= .type "tuple"/\o.dict=none)\/
  (T="dict"/\((∃kvs,H p=some `da')\/∃kvs,H p=some `hd'))\/(T="set"/\∃S n,H p=some (.set S n))
 |_=>False
def PR (I:cB X pins σ H s) (r:ff x v) (ty:tyV X.K T x H):
 s.TypeIs v T/\∀a,v= .ref a->∃ob,s.heap.get? a=some ob/\ob.dict=none:=by
 cases x with
 |str z=>
  show 49;cases(ty);exact#[typeIs_str s z t,fun _ e=>nomatch e]
 |int i=>
  show 49;cases(ty);exact#[typeIs_int s i t,fun _ e=>nomatch e]
 |ref p=>
  cases r;rcases ty with⟨rfl,xs,hq⟩| ⟨rfl,o,hk,hc,hd⟩| ⟨rfl,hk⟩| ⟨rfl,S,n,hk⟩
  ·obtain⟨its,_,pl,_⟩:=I.list hq;refine#[pl.isList.typeIs,fun a e=>?_];cases e;obtain⟨o,n,e,c,hd,_⟩:=pl;exact#[o,e,hd]
  ·refine#[#[o,I.kIn p o hk,hc],fun a e=>?_];cases e;exact#[o,I.kIn _ o hk,hd]
  ·have z:∃o,s.heap.get? p=some o/\o.ExactDict:=by
    rcases hk with⟨kvs,hk⟩| ⟨kvs,hk⟩
    ·show 192
    ·show 192
   obtain⟨o,e,ex⟩:=z;refine `nF';cases e2;exact#[o,e,ex.2.1]
  ·obtain⟨o,_,_,_,e,ex,_⟩:=I.hok p _ hk;refine `nF';cases e2;exact#[o,e,ex.2.1]
 |_=>exact False.elim ty
def acs (K:ai) (T:String) (r:V->List V->Hp->VK->Prop) (to:TE):TE:=fun σ H Q=>to σ H fun x H1=>tyV K T x H1/\r x [] H1 Q
def tBM (K:ai) (T:String) (r:V->List V->Hp->VK->Prop) (to:TE) (t:TA):TE:=fun σ H Q=>to σ H fun x H1=>tyV K T x H1/\t σ H1 fun xs H2=>r x xs H2 Q
variable {o e:Expr} {es:List Expr} {to:TE} {t:TA} {name:Str} {apos cpos:Pos} {T id:String} {r:V->List V->Hp->VK->Prop}
def IS (pa:PlainAttrs T) (slot:Slot T name id) (hty:typeOf `e4'=pure `nI') (hm:MtR X id r) (ho:PE X o to)
 (Nc:attributeBase o name X.env `k0'=eval o X.env:=by rfl) (Jf:`e8'=true:=by rfl):PE X (.Call (.Attribute o name apos) [] [] cpos) (acs X.K T r to):=by
 show 3;refine wpAny_Call_method0_late Nc Jf (iH `cw' fun v s1 ⟨x,H1,I1,r1,ty,q1⟩=>?_);obtain⟨h1,h2⟩:=PR I1 r1 ty;exact#[T,id,pa,slot,hty,h1,h2,jU rfl (PySem.evalArgs_none (hm pins s1 σ H1 x [] v [] Q I1 r1 .nil q1))]
def nZ (pa:PlainAttrs T) (slot:Slot T name id) (hty:typeOf `e4'=pure `nI') (hm:MtR X id r) (ho:PE X o to) (ha:PA X `dH' t)
 (Nc:attributeBase o name X.env `k0'=eval o X.env:=by rfl)
 (abk:((backTo cpos (starEach `dH' X.env)).all (fun x=> !x.1)&&(backToKw cpos `gc').all `k8'
  &&decide ((e::es).length+([]:List Keyword).length+`dZ'<30))=true:=by rfl)
 (Jf:`e8'=true:=by rfl) (hs:starEach `dH' X.env=(false,eval e X.env)::starEach es X.env:=by rfl) (Up:(backTo cpos `a0').any (·.1)=false:=by rfl):
 PE X (.Call (.Attribute o name apos) `dH' [] cpos) (tBM X.K T r to t):=by
 show 3;refine wpAny_Call_method_late Nc abk Jf rfl (iH `cw' fun v s1 ⟨x,H1,I1,r1,ty,q1⟩=>?_);obtain⟨h1,h2⟩:=PR I1 r1 ty;refine#[T,id,pa,slot,hty,h1,h2,?_];have hA:=ha cpos pins s1 σ H1 _ I1 q1;rw[hs] at hA⊢
 refine jU (by show(false||(backTo cpos `a0').any (·.1))=false;rw[Up]<;>rfl) (kP ?_);exact iH hA fun us s2 ⟨vs,H2,I2,r2,q2⟩=>hm pins s2 σ H2 x vs v us Q I2 r1 r2 q2
end
def MtM (X:Cx) (id:String) (r:V->List V->Hp->VK->Prop):Prop:=
 ∀(pins:List (ak×Obj)) (s:aS) (σ:St) (H:Hp) (x:V) (xs:List V) (v:aA) (us:List aA) (Q:VK),cB X pins σ H s->ff x v->dy xs us->r x xs H Q->
  wpAny `Tm X.A (call `e4' (v::us)) `bg' X.xe s
def dy.one:∀{x:V} {us:List aA},dy [x] us->∃u,us=[u]/\ff x u
 |_,_,.cons r .nil=>#[_,rfl,r]
def dy.zero:∀{us:List aA},dy [] us->us=[]
 |_,.nil=>rfl
def dy.reverse (h:dy xs us):dy xs.reverse us.reverse:=by
 induction h with
 |nil=>exact .nil
 |cons r t ih=>rw[fT,fT];exact dy.append ih (.cons r .nil)
def dy.rep (h:dy xs us):∀k:Nat,dy (replicate k xs).flatten (replicate k us).flatten
 |0=>.nil
 |k+1=>by
  rw[dD,dD,ko,ko];exact dy.append h (dy.rep h k)
def CB (its:List aA):∀(k:Nat) (cR:List aA),
 List.foldl `ec' cR.toArray (replicate k its.toArray)=(cR++(replicate k its).flatten).toArray
 |0,cR=>by simp
 |k+1,cR=>by
  have e:cR.toArray++its.toArray=(cR++its).toArray:=by simp
  have e2:(cR++its)++(replicate k its).flatten=cR++(replicate (k+1) its).flatten:=by
   rw[dD,ko,cI]
  rw[<-e2,<-CB its k (cR++its),<-e,dD,dI]
section
variable {X:Cx} {pins:List (ak×Obj)} {σ:St} {H:Hp} {s:aS} {l b:ak} {xs ys zs:List V}
def cB.lset {its its':List aA} (I:cB X pins σ H s) (hH:H l=some `bh')
 (e:s.heap.get? l=some {cls:=.type "list",data:=.seq its.toArray n}) (hf:f its.toArray=its'.toArray) (hv:dy ys its') (hz:ys.length<=sizeLine):
 cB X pins σ (bO H l `cC') {s with heap:=s.heap.update l (mapSeq f),toks:=t'}:=by
 have q:=PySem.IsL.update e f;rw[hf] at q;refine I.write (by rw[hH];exact trivial) `a8' (fun b' u hb hu=>(dc s.heap (mapSeq f) (je hb)).trans hu) #[_,q] ?_;exact#[hz,its',_,hv,q]
def cB.lnew (I:cB X pins σ H s) (hv:dy ys its) (hz:ys.length<=sizeLine):
 cB X pins σ (bO H s.heap.objs.size `cC') {s with heap:=s.heap.push {cls:=.type "list",data:=.seq its.toArray},toks:=t'}:=
 I.laid `k3' (ax _) #[hz,its,0,hv,a7 _ rfl]
def cB.fresh (I:cB X pins σ H s):H s.heap.objs.size=none:=I.hok.fresh (ax _)
def cB.lstM (I:cB X pins σ H s) (hH:H l=some `bh'):xs.length<=sizeLine/\∃(its:List aA) (n:Nat),dy xs its/\xs.length=its.length/\s.heap.get? l=some {cls:=.type "list",data:=.seq its.toArray n}:=by
 obtain⟨z,its,n,r,e⟩:=I.hok l _ hH;exact#[z,its,n,r,r.length,e]
def F2 (h:n<=sizeLine):listTooLong n=false:=by
 exact bS `mt
end
section
variable {X:Cx}
def JK:V->List V->Hp->VK->Prop:=fun x vs H Q=>∃l xs y,x= .ref l/\vs=[y]/\H l=some `bh'/\xs.length<sizeLine/\Q .non (bO H l `i2')
def gN:MtM X "list.append" JK:=by
 show 151;obtain⟨l,xs,y,rfl,rfl,hH,hz,q⟩:=h;cases rx;obtain⟨u,rfl,ru⟩:=rv.one;show 43;refine kK F.slot_list_append `kK' F.entry_list_append (F.args_list_append_2 _ _) (PySem.list_append l its.toArray n u `mw') #[e,?_];refine#[.non,_,I.lset (its':=its++[u]) hH e `S' (r.append (.cons ru .nil)) ?_,rfl,q];rw[aE,cz];omega
def S5:V->List V->Hp->VK->Prop:=fun x vs H Q=>∃l b xs zs,x= .ref l/\vs=[.ref b]/\H l=some `bh'/\H b=some (.lst zs)/\xs.length+zs.length<=sizeLine/\Q .non (bO H l (.lst (xs++zs)))
def Ce:MtM X "list.extend" S5:=by
 show 151;obtain⟨l,b,xs,zs,rfl,rfl,hH,hB,hz,q⟩:=h;cases rx;obtain⟨u,rfl,ru⟩:=rv.one;cases ru;show 43;obtain⟨z2,Bn,n2,r2,tO,e2⟩:=I.lstM hB;have hsz:its.toArray.size+Bn.toArray.size<=sizeLine:=by rw[bn,bn];omega
 have Nr:¬(!its.toArray.isEmpty&&listTooLong (its.toArray.size+Bn.toArray.size))=true:=by
  rw[F2 hsz,hU];exact c8
 refine kK F.slot_list_extend `kK' F.entry_list_extend (F.args_list_extend_2 _ _)
  (AutoSeq1.list_extend_list_list_0 l its.toArray n b Bn.toArray n2 Nr `mw' `mt) #[e,e2,?_]
 refine#[.non,_,I.lset (its':=its++Bn) hH e `S' (r.append r2) ?_,rfl,q];rw[aE];omega
def Pe:V->List V->Hp->VK->Prop:=fun x vs H Q=>∃l xs,x= .ref l/\vs=[]/\H l=some `bh'/\Q .non (bO H l (.lst xs.reverse))
def uH:MtM X "list.reverse" Pe:=by
 show 151;obtain⟨l,xs,rfl,rfl,hH,q⟩:=h;cases rx;have hus:=rv.zero;subst hus;show 43;refine kK F.slot_list_reverse `kK' F.entry_list_reverse (F.args_list_reverse_1 _) (AutoSeq1.list_reverse_list_0 l its.toArray n `mw') #[e,?_];refine#[.non,_,I.lset (its':=its.reverse) hH e `S' r.reverse ?_,rfl,q];rw[jx];omega
def acC:R2:=fun x y H Q=>∃l b xs zs,x= .ref l/\y= .ref b/\H l=some `bh'/\H b=some (.lst zs)/\xs.length+zs.length<=sizeLine/\∀p,H p=none->Q `dR' (bO H p (.lst (xs++zs)))
def uY:E7 X `j2' acC:=by
 show 18;obtain⟨l,b,xs,zs,rfl,rfl,hH,hB,hz,q⟩:=h;cases rx;cases ry;show 43;obtain⟨z2,Bn,n2,r2,tO,e2⟩:=I.lstM hB;refine PySem.P.add_list e e2 ?_ (by rw[bn,bn];omega);have ea:its.toArray++Bn.toArray=(its++Bn).toArray:=by simp
 rw[ea];exact#[.ref _,_,I.lnew (r.append r2) (by rw[aE];omega),rfl,q _ I.fresh]
def Z2:R2:=fun x y H Q=>∃l k xs,x= .ref l/\y= .int k/\H l=some `bh'/\ -(2^63)<=k/\k<2^63/\xs.length*k.toNat<=sizeLine/\
 ∀p,H p=none->Q `dR' (bO H p (.lst (replicate k.toNat xs).flatten))
def Sd {α:Type} (xs:List α) (k:Nat):(replicate k xs).flatten.length=k*xs.length:=by
 induction k with
 |zero=>simp
 |succ k ih=>rw[dD,ko,aE,ih,oJ,jh]
def Vg:E7 X `nm' Z2:=by
 show 18;obtain⟨l,k,xs,rfl,rfl,hH,h1,h2,hz,q⟩:=h;cases rx;obtain⟨t,rfl⟩:=ry;show 43;have fY:its.toArray.size*k.toNat<=sizeLine:=by rw[bn,<-hl];exact hz
 have abb:¬its.toArray.size*k.toNat>(2^63 - 1)/8:=by
  have:(sizeLine:Nat)<=(2^63 - 1)/8:=by decide
  omega
 have Nf:¬(!Builtin.List.listFitsIndex k)=true:=by
  rw[fitsIndex_both h1 h2];exact c8
 have Nr:¬listTooLong (its.toArray.size*k.toNat)=true:=by
  rw[F2 fY];exact c8
 have Rg:List.foldl `ec' #[] (replicate (if its.toArray.isEmpty=true then 0 else k.toNat) its.toArray)=(replicate k.toNat its).flatten.toArray:=by
  have f0:=fun m=>by
   have:=CB its m [];rw[iq] at this;exact this
  rw[f0];cases its with
  |nil=>simp
  |cons a r'=>rw[au `S']
 refine wpAny_binaryOp_repeat_ref `KK `kK' `nM' noFill_list_mul F.fills_int_mul oq repeat_list F.slot_int_index.lookup
  (kK oq (typeIs_int s k t) F.entry_int_rmul (F.args_int_rmul_2 _ _) (int___rmul___int_list k t l its.toArray n)
   #[e,rfl,`kK',kK F.slot_list_mul `kK' F.entry_list_mul (F.args_list_mul_2 _ _) (AutoListH.list___mul___list_int_3 l its.toArray n k t Nf abb Nr) #[e,?_]])
 rw[Rg];exact#[.ref _,_,I.lnew (r.rep k.toNat) (by rw[Sd,oM];exact hz),rfl,q _ I.fresh]
end
def dy.ints:∀{ns:List Int} {us:List aA},dy `gB' us->IntsAre us ns
 | [],us,h=>by
  rw[List.map_nil] at h;cases h;exact IntsAre.nil
 |n::ns,us,h=>by
  rw[bw] at h;cases h with
  |cons r t=>
   obtain⟨k,rfl⟩:=r;exact IntsAre.cons n k (dy.ints t)
def dy.ref1 (r:dy `lr' us):us=[Value.ref a]:=by
 cases r with
 |cons r t=>
  cases t;cases r;rfl
section
variable {prog:bN} {w:cV} {A:dY} {E:aA->aS->Prop} {s:aS} {l:ak} {its:List aA} {ns:List Int} {Q:aA->aS->Prop}
def Sq (hh:A.handled=none) (hl:s.heap.IsList l its.toArray) (hi:IntsAre its ns)
 (h:∀h' tk t',(∀b o,s.heap.get? b=some o->h'.get? b=some o)->Q (.int ns.sum t') {s with heap:=h',toks:=tk}):wpAny `C' A (call `m5' [.ref l]) Q E s:=by
 show 6
 show 226;rw[e] at hl;refine PySem.sum_intListG hh hl fun h' tk t' hk=>?_;have:=h h' tk t' hk;rw[preSum_eq,cS `S',hn];exact this
def Sr (hh:A.handled=none) (hl:s.heap.IsList l its.toArray) (hi:IntsAre its ns) (lH:0<ns.length)
 (h:∀h' tk M t',(∀b o,s.heap.get? b=some o->h'.get? b=some o)->M∈ns->(∀a,a∈ns->a<=M)->Q (.int M t') {s with heap:=h',toks:=tk}):wpAny `C' A (call `fj' [.ref l]) Q E s:=by
 show 6
 show 226;subst hn;rw[e] at hl;have hsz:0<xs.size:=by simpa using lH
 refine PySem.max_intList hh hl hsz fun v h' tk hv hk=>?_;obtain⟨t,rfl⟩:=intItems_at hv;obtain⟨h1,h2⟩:=argBest_gt (numAt xs) (xs.size - 1);refine h h' tk _ t hk ?_ fun a ha=>?_
 ·show 231
 ·show 126
end
section
variable {X:Cx}
def ab6 (K:ai):List V->Hp->VK->Prop:=fun vs H Q=>∃(a:ak) (ns:List Int),vs=`lr'/\SqL K H a `gB'/\Q (.int ns.sum) H
structure VW (K:ai) (vs:List V) (H:Hp) (Q:VK):Prop where h:∃(a:ak) (ns:List Int),vs=`lr'/\SqL K H a `gB'/\0<ns.length/\∀m,m∈ns->(∀y,y∈ns->y<=m)->Q (.int m) H
def C6 (hc:X.calm=true):rf X `m5' (ab6 X.K):=by
 show 82;obtain⟨a,ns,rfl,hs,q⟩:=h;obtain⟨its,rv,hl,_⟩:=I.list hs;rw[dy.ref1 r];exact Sq `bZ' hl.isList rv.ints fun h' tk t' hk=>#[.int _,H,I.kept hk,`dQ',q]
def Va (hc:X.calm=true):rf X `fj' (VW X.K):=by
 show 82;obtain⟨a,ns,rfl,hs,lH,q⟩:=h;obtain⟨its,rv,hl,_⟩:=I.list hs;rw[dy.ref1 r];exact Sr `bZ' hl.isList rv.ints lH fun h' tk m t' hk h1 h2=>#[.int _,H,I.kept hk,`dQ',q m h1 h2]
end
abbrev GY (h:cZ) (c:ak) (v:Option aA):Prop:=h.IsCell c v
def aca (scope sc:ju):ju:=
 {scope with names:=scope.names.map fun(n,k)=>if(k== .free&&sc.kind== .function&&sc.names.lookup n==some .cell) then(n,.cell) else(n,k)}
def gU (cells:List `fV'):List (Str×NameKind)->List `fV'->List `fV'
 | [],cR=>cR
 | (n,k)::r,cR=>if k== .free then gU cells r ((n,(cells.lookup n).getD 0)::cR) else gU cells r cR
def vL (env:Env) (f:Str×NameKind->List `fV'->Sem (ForInStep (List `fV')))
 (hf:∀n k c,f (n,k) c=if k== .free then(do let a<-cellOf env n;pure (.yield ((n,a)::c))) else pure (.yield c)):
 ∀(names:List (Str×NameKind)) (cR:List (Str×ak)),(∀y∈names,y.2= .free->∃c,env.cells.lookup y.1=some c)->forIn names cR f=pure (gU env.cells names cR)
 | [],cR,_=>by rw[List.forIn_nil];rfl
 | (n,k)::r,cR,h=>by
  rw[List.forIn_cons,hf];have ih:=fun cR=>vL env f hf r cR fun y hy=>h y `hg';unfold gU;by_cases hk:(k==NameKind.free)=true
  ·rw[aD hk,aD hk];obtain⟨c,hc⟩:=h (n,k) aI (by simpa using hk);have e:cellOf env n=pure c:=by unfold cellOf;rw[hc]
   rw[e];have e2:(env.cells.lookup n).getD 0=c:=by rw[hc];rfl
   rw[e2];exact ih _
  ·rw[au hk,au hk];exact ih _
def Au (h:∀y∈scope.names,y.2= .free->∃c,env.cells.lookup y.1=some c):closureFor scope env=pure (gU env.cells scope.names []):=by
 simp only[closureFor];rw[vL env _ (fun n k c=>rfl) scope.names [] h];rfl
def nD {α:Type}:∀{l:List (Str×α)} {n:Str} {c:α},(n,c)∈l->∃c',l.lookup n=some c'
 | (k,v)::r,n,c,h=>by
  rw[cy];cases hb:n==k with
  |true=>exact `dQ'
  |false=>
   show 221
   ·cases e;simp at hb
   ·exact nD h
def n9:∀{names:List (Str×NameKind)} {cR:List (Str×ak)} {n:Str} {c:ak},(n,c)∈gU cells names cR->(n,c)∈cR\/((n,.free)∈names/\c=(cells.lookup n).getD 0)
 | [],_,_,_,h=>.inl h
 | (m,k)::r,cR,n,c,h=>by
  unfold gU at h
  split at h
  ·rename_i hk;have hk:k= .free:=by simpa using hk
   rcases n9 h with h| ⟨h1,h2⟩
   ·show 221
    ·cases e;exact .inr #[hk▸aI,rfl]
    ·exact .inl h
   ·exact .inr #[aK _ h1,h2]
  ·rcases n9 h with h| ⟨h1,h2⟩
   ·exact .inl h
   ·exact .inr #[aK _ h1,h2]
def tF:∀{names:List (Str×NameKind)} {cR:List (Str×ak)} {p:Str×ak},p∈cR->p∈gU cells names cR
 | [],_,_,h=>h
 | (m,k)::r,cR,p,h=>by
  unfold gU
  split
  ·exact tF (aK _ h)
  ·exact tF h
def qu:∀{names:List (Str×NameKind)} {cR:List (Str×ak)} {n:Str},(n,.free)∈names->(n,(cells.lookup n).getD 0)∈gU cells names cR
 | (m,k)::r,cR,n,h=>by
  unfold gU;show 221
  ·cases e;exact tF aI
  ·split
   ·exact qu h
   ·exact qu h
def pj:∀{names:List (Str×NameKind)} {h:cZ} {cR:List (Str×ak)} {x:Str} {c:ak},(x,c)∈cellsFrom h.objs.size names cR->
 (x,c)∈cR\/((x,.cell)∈names/\h.objs.size<=c/\GY (pushCells h names) c none)
 | [],_,_,_,_,h=>.inl h
 | (n,k)::r,h,cR,x,c,hm=>by
  unfold cellsFrom at hm;unfold pushCells
  split at hm
  ·rename_i hk;rw[aD hk];have hk:k= .cell:=by simpa using hk
   rw[<-b8 h {cls:=.type "cell",data:=.cell none}] at hm;rcases pj hm with hm| ⟨h1,h2,h3⟩
   ·rcases bh.mp hm with e|hm
    ·cases e;exact .inr #[hk▸aI,ax _,_,j0 r _ _ _ `f3',rfl]
    ·exact .inl hm
   ·rw[b8] at h2;exact .inr #[aK _ h1,jf h2,h3]
  ·rename_i hk;rw[au hk];rcases pj hm with hm| ⟨h1,h2,h3⟩
   ·exact .inl hm
   ·exact .inr #[aK _ h1,h2,h3]
def qU:∀{names:List (Str×NameKind)} {n:Nat} {cR:List (Str×ak)} {p:Str×ak},p∈cR->p∈cellsFrom n names cR
 | [],_,_,_,h=>h
 | (m,k)::r,n,cR,p,h=>by
  unfold cellsFrom
  split
  ·exact qU (aK _ h)
  ·exact qU h
def tX:∀{names:List (Str×NameKind)} {n:Nat} {cR:List (Str×ak)} {x:Str},(x,.cell)∈names->∃c,(x,c)∈cellsFrom n names cR
 | (m,k)::r,n,cR,x,h=>by
  unfold cellsFrom;show 221
  ·cases e;exact#[n,qU aI]
  ·split
   ·exact tX h
   ·exact tX h
def ug:∀{names:List (Str×NameKind)} {h:cZ} {cR:List (Str×ak)} {x y:Str} {c:ak},(∀p∈cR,p.2<h.objs.size)->(∀x y c,(x,c)∈cR->(y,c)∈cR->x=y)->
 (x,c)∈cellsFrom h.objs.size names cR->(y,c)∈cellsFrom h.objs.size names cR->x=y
 | [],_,_,_,_,_,_,hi,h1,h2=>hi _ _ _ h1 h2
 | (n,k)::r,h,cR,x,y,c,hl,hi,h1,h2=>by
  unfold cellsFrom at h1 h2
  split at h1
  ·rename_i hk;rw[aD hk] at h2;rw[<-b8 h {cls:=.type "cell",data:=.cell none}] at h1 h2;refine ug (fun p hp=>?_) (fun x y c a b=>?_) h1 h2
   ·rw[b8];rcases bh.mp hp with rfl|hp
    ·exact iJ _
    ·exact kn (hl p hp)
   ·rcases bh.mp a with e|a<;>rcases bh.mp b with e'|b
    ·cases e;cases e';rfl
    ·cases e;exact absurd (hl _ b) (dz _)
    ·cases e';exact absurd (hl _ a) (dz _)
    ·exact hi _ _ _ a b
  ·rename_i hk;rw[au hk] at h2;exact ug hl hi h1 h2
def Ft {code:aA}
 (h:Q (newEnv scope s.heap.objs.size globals (cellsFrom `i' scope.names rA) qual func code (some around) builtins)
  {s with heap:=pushCells `bD' scope.names}):
 wpAny M A (newFunctionEnv scope globals rA [] qual func code (some around) builtins) Q E s:=by
 simp only[newFunctionEnv,Option.isSome_some,oI];refine ah (wpAny_alloc ?_);refine ah (wpAny_layCells _ (fun n k c=>rfl) scope.names rA _ _ ?_);rw[show({s with heap:=s.heap.push {cls:=.type "dict",data:=.dict #[]}}:aS).heap.objs.size=s.heap.objs.size+1 from b8 ..];rw[List.forIn_nil];exact ah (aJ (aJ h))
def sM {sc:ju}:∀{names:List (Str×NameKind)} {x:Str} {k:NameKind},
 (names.map fun(n,k)=>if(k==NameKind.free&&sc.kind== .function&&sc.names.lookup n==some .cell) then(n,NameKind.cell) else(n,k)).lookup x=some k->
 ∃k',names.lookup x=some k'/\(k=k'\/(k'= .free/\k= .cell))
 | [],_,_,h=>by simp at h
 | (n,k₀)::r,x,k,h=>by
  have ih:= @sM sc r x k;have h':List.lookup x ((if `bC'=true then(n,NameKind.cell) else(n,k₀))::(r.map _))=some k:=h;cases hx:x==n with
  |true=>
   simp only[cy,hx];by_cases hc:`bC'=true
   ·rw[aD hc] at h';simp only[cy,hx] at h';cases h';simp only[aX,gv] at hc;exact#[k₀,rfl,.inr #[hc.1.1,rfl]]
   ·rw[au hc] at h';simp only[cy,hx] at h';cases h';exact#[_,rfl,.inl rfl]
  |false=>
   simp only[cy,hx];by_cases hc:`bC'=true
   ·rw[aD hc] at h';simp only[cy,hx] at h';exact ih h'
   ·rw[au hc] at h';simp only[cy,hx] at h';exact ih h'
structure Gg (N:List Str) (sc scope:ju) (own:List (Str×Nat)):Prop where
 kind:scope.kind= .function
 uniq:∀y∈scope.names,scope.names.lookup y.1=some y.2
 ix:∀p∈own,N[p.2]? =some p.1
 free:∀y∈scope.names,y.2= .free->sc.names.lookup y.1=some .cell\/sc.names.lookup y.1=some .free
 own:∀y∈scope.names,y.2= .local\/y.2= .cell->y.1∈own.map (·.1)\/y.1∉N
def ie (σ:St):List Nat->St
 | []=>σ
 |v::vs=>(ie σ vs).set v none
def sL (σ:St):∀vs:List Nat,(ie σ vs).length=σ.length
 | []=>rfl
 |v::vs=>by unfold ie;rw[eC,sL σ vs]
def w8:∀{vs:List Nat},`dJ'[i]? =some (some x)->σ[i]? =some (some x)/\i∉vs
 | [],h=>#[h,by simp]
 |v::vs,h=>by
  unfold ie at h;by_cases hi:v=i
  ·subst hi;by_cases hv:v< (ie σ vs).length
   ·rw[mF hv] at h;cases h
   ·rw[bc `kW'] at h;cases h
  ·rw[nU hi] at h;obtain⟨h1,h2⟩:=w8 h;exact#[h1,by simp only[bh,not_or];exact#[fun e=>hi e.symm,h2]]
abbrev Cx.blk (X:Cx) (s:aS) (H:Hp) (scope:ju) (pw:Env) (fp:List ak):Cx:={X with s_0:=s,H_0:=H,env:=pw,outer:=X.stack,ex:=fp,fn:=fun x=>scope.names.lookup x==some .cell,pn:=[],xe:=fun _ _=>False}
section
variable {X:Cx} {pins:List (ak×Obj)} {σ:St} {H:Hp} {s:aS}
def Fk (I:cB X pins σ H s) (ok:Gg X.N X.env.scope scope own) (hN:X.N.Nodup) (QK:∀b∈fp,vJ X pins H b/\b<s.heap.objs.size):
 cB (X.blk s H scope (compEnvC scope (cellsFrom `i' scope.names `ga') s.heap.objs.size X.env) fp) [] (ie σ (own.map (·.2))) H {s with heap:=pushCells `bD' scope.names}:=by
 have kI:∀y∈scope.names,y.2= .free->∃c,X.env.cells.lookup y.1=some c:=fun y hy e=>by
  rcases ok.free y hy e with k|k
  ·exact I.ok.has _ (.inl k)
  ·exact I.ok.has _ (.inr k)
 generalize hcenv:compEnvC scope (cellsFrom `i' scope.names `ga') s.heap.objs.size X.env=pw;have kp:∀b o,s.heap.get? b=some o->(pushCells `bD' scope.names).get? b=some o:=fun b o e=>j0 _ _ _ _ (ap _ e);have hL:pw.locals=s.heap.objs.size:=by rw[<-hcenv];rfl
 have oi:pw.cells=cellsFrom `i' scope.names `ga':=by rw[<-hcenv];rfl
 have QN:pw.scope=aca scope X.env.scope:=by rw[<-hcenv];rfl
 rw[<-b8 s.heap {cls:=.type "dict",data:=.dict #[]}] at oi;have cm:∀{y c},(y,c)∈gU X.env.cells scope.names []->X.env.cells.lookup y=some c/\c<s.heap.objs.size:=fun{y c} hm=>by
  rcases n9 hm with hm| ⟨h1,rfl⟩
  ·cases hm
  ·obtain⟨c,hc⟩:=kI _ h1 rfl;rw[hc];obtain⟨w,z⟩:=I.cell _ _ hc;exact#[rfl,z.lt]
 have mem:∀{y c},pw.cells.lookup y=some c->(X.env.cells.lookup y=some c/\c<s.heap.objs.size)\/(s.heap.objs.size+1<=c/\GY (pushCells `bD' scope.names) c none):=fun{y c} e=>by
  rw[oi] at e;rcases pj (bJ e) with hm| ⟨_,h2,h3⟩
  ·exact .inl (cm hm)
  ·rw[b8] at h2;exact .inr #[h2,h3]
 have look:∀{y},scope.names.lookup y=some .free->∃c,pw.cells.lookup y=some c/\X.env.cells.lookup y=some c:=fun{y} hl=>by
  have hy:=bJ hl;obtain⟨c',e'⟩:=nD (qU (qu hy));rw[<-oi] at e';refine#[c',e',?_];rw[oi] at e';rcases pj (bJ e') with hm| ⟨h1,_,_⟩
  ·exact(cm hm).1
  ·have:=ok.uniq _ h1;rw[hl] at this;cases this
 have okB:(X.blk s H scope pw fp).Ok:=by
  refine⟨I.ok.mod,by show pw.scope.kind=_;rw[QN];exact ok.kind,by show pw.globals=_;rw[<-hcenv];exact I.ok.glob,by show pw.builtins=_;rw[<-hcenv];exact I.ok.blt,by show s.heap.objs.size<=pw.locals;rw[hL];exact ax _,
   fun y z c e1 e2=>?_,fun y hy=>?_,fun y c z e=>?_,I.ok.hd,I.ok.frames,.inl rfl,fun b hb=>#[?_,fun y c e z=>?_],I.bs,aU I.ok.bsz I.sz,fun b o e hb=>?_,fun b hb z=>?_,I.stack,I.stkFree⟩
  ·have e1:=e1;have e2:=e2;rw[oi] at e1 e2;refine ug (fun p hp=>?_) (fun y z c a b=>I.ok.inj y z c (cm a).1 (cm b).1) (bJ e1) (bJ e2);rw[b8];exact kn (cm hp).2
  ·show ∃c,pw.cells.lookup y=some c;have key:∀k,pw.kindOf y=some k->(k= .cell\/k= .free)->∃c,pw.cells.lookup y=some c:=fun k hk KW=>by
    unfold Env.kindOf at hk;rw[QN] at hk;obtain⟨k',e,r⟩:=sM hk;have:k'= .cell\/k'= .free:=by
     rcases r with rfl| ⟨rfl,_⟩
     ·exact KW
     ·exact .inr rfl
    rcases this with rfl|rfl
    ·obtain⟨c,hm⟩:=tX (bJ e);obtain⟨c',e'⟩:=nD hm;exact#[c',by rw[oi];exact e']
    ·obtain⟨c,h1,_⟩:=look e;exact#[c,h1]
   rcases hy with hy|hy
   ·exact key _ hy `a8'
   ·exact key _ hy (.inr rfl)
  ·have z:=z;have z:scope.names.lookup y=some .cell:=by simpa using z
   have e:=e;rw[oi] at e;rcases pj (bJ e) with hm| ⟨_,h2,_⟩
   ·rcases n9 hm with hm| ⟨h1,_⟩
    ·cases hm
    ·have q:=ok.uniq _ h1;rw[z] at q;cases q
   ·rw[b8] at h2;exact jf h2
  ·show b≠pw.locals;rw[hL];exact cF (QK b hb).2
  ·have e:=e;rcases mem e with⟨h1,_⟩| ⟨h1,_⟩
   ·exact(QK b hb).1.2.2.2.2.1 y c h1 z
   ·have h2:s.heap.objs.size+1<=b:=by rw[<-z];exact h1
    exact absurd (bD (QK b hb).2 (jf h2)) (dz _)
  ·rcases(QK b hb).1.2.2.2.1 with z|z
   ·exact I.ok.noex b o e z
   ·exact absurd (bD (a8 e) (aU I.ok.bsz z)) (dz _)
  ·rcases bh.mp (I.stkSub b z) with z|z
   ·exact(QK b hb).1.2.1 z
   ·exact(QK b hb).1.2.2.1 z
 refine#[okB,rfl,I.bare,Un.kept kp,#[fun _=>none,?_,fun i y av e1 e2 e3=>?_],fun y c e=>?_,?_,fun y c e=>?_,fun p hp=>?_,I.hok.kept kp,by rw[sL];exact I.len]
 ·show Heap.Ns _ pw.locals _;rw[hL];show 194
 ·obtain⟨e2,lH⟩:=w8 e2;have QF:scope.names.lookup y=some .free/\`hC':=by
   have key:∀k,pw.scope.names.lookup y=some k->k= .local\/k= .cell\/k= .free->scope.names.lookup y=some .free/\`hC':=fun k hk KW=>by
    have Tu:=hk;rw[QN] at hk;obtain⟨k',e,r⟩:=sM hk;have no:¬(k'= .local\/k'= .cell):=fun hh=>by
     rcases ok.own _ (bJ e) hh with e'|e'
     ·obtain⟨p,hp,hpy⟩:=aV.mp e';have e3:=ok.ix p hp;have:p.1=y:=hpy;rw[this] at e3;exact lH (aV.mpr #[p,hp,yL hN e3 e1])
     ·exact e' (aQ e1)
    rcases r with rfl| ⟨rfl,rfl⟩
    ·rcases KW with rfl|rfl|rfl
     ·exact absurd `a8' no
     ·exact absurd (.inr rfl) no
     ·exact#[e,.inr Tu]
    ·exact#[e,.inl Tu]
   have e3:=e3;rcases e3 with e3|e3|e3
   ·exact key _ e3 `a8'
   ·exact key _ e3 (.inr `a8')
   ·exact key _ e3 (.inr (.inr rfl))
  show 120;have aaM:Uc X.env.scope y:=(ok.free _ (bJ QF.1) rfl).elim (fun k=>.inr (.inl k)) (fun k=>.inr (.inr k));obtain⟨w,r,q⟩:=hl i y av e1 e2 aaM;refine#[w,r,.inr #[QF.2,?_]];obtain⟨c,h1,h2⟩:=look QF.1;rcases q with⟨k,_⟩| ⟨_,c',e',z⟩
  ·have k:X.env.scope.names.lookup y=some .local:=k;rcases ok.free _ (bJ QF.1) rfl with k'|k'<;>rw[show X.env.scope.names.lookup y=_ from k'] at k<;>cases k
  ·rw[h2] at e';cases e';exact#[c,h1,z.keeps kp]
 ·have e:=e;rcases mem e with⟨h1,_⟩| ⟨_,z⟩
  ·obtain⟨w,z⟩:=I.cell y c h1;exact#[w,z.keeps kp]
  ·exact#[_,z]
 ·show H pw.locals=none;rw[hL];exact I.hok.fresh (ax _)
 ·have e:=e;rcases mem e with⟨h1,_⟩| ⟨h1,_⟩
  ·exact I.freeC y c h1
  ·exact I.hok.fresh (jf h1)
 ·exact absurd (hp) `S'
def VS (I:cB X pins σ H s) (hD:H D=some `bh') (hz:xs.length<sizeLine) (r:ff y v)
 (h:∀s',cB X pins σ (bO H D `i2') s'->Q .none s'):wpAny `Tm X.A (call (.builtin "list.append") [.ref D,v]) Q E s:=by
 obtain⟨Ta,its,n,ri,e⟩:=I.hok D _ hD;have hl:=ri.length;refine append_at e fun h' sb MO=>?_;refine h {s with heap:=h'} (I.write (by rw[hD];trivial) `a8' (fun b u hb q=>(sb.2 b hb).trans q) #[_,MO] #[by rw[aE];exact hz,its++[v],n+1,ri.append (.cons r .nil),?_]);rw[MO];simp
def PTs (X:Cx) (MD:List Expr) (t:TT):Prop:=
 ∀(pins:List (ak×Obj)) (s:aS) (σ:St) (H:Hp) (Q:Bool->Hp->Prop),cB X pins σ H s->t σ H Q->
  wpAny `Tm X.A (forIn MD true fun c r=>if r=true then do let ok<-isTrue c X.env (eval c X.env);pure (ForInStep.yield ok) else pure (ForInStep.yield r)) `nj' X.xe s
def aau:TT:=fun _ H Q=>Q true H
def jo:PTs X [] aau:=fun _ _ _ H _ I h=>wpAny_tests_nil #[H,I,h]
def jA (h:PT X c t):PTs X [c] t:=fun pins s σ H Q I hw=>wpAny_tests_one `jh'
end
def LW {α:Type} {t:Sem α} {Q Q':α->aS->Prop} (h:wpAny M A t Q `nq' s) (hQ:∀a s,Q a s->Q' a s):wpAny M A t Q' E s:=fH h hQ fun _ _ z=>False.elim z
def DT (I:Nat->aS->Prop)
 (GP:∀n s,I n s->wpAny `C' A (pyNext it) (fun r s₁=>match r with
  |none=>R (.ok .next) s₁
  |some v=>wpAny `C' A (letOwnedTupleGo CW it v) (fun _ s₁'=>wpAny `C' A (assign CW env v) (fun _ s₂=>
   wpAny `C' A (forIn MD true fun c r=>if r=true then do let ok<-isTrue c env (eval c env);pure (ForInStep.yield ok) else pure (ForInStep.yield r)) (fun ok s₃=>
    if ok=true then wpAny `C' A (eval elt env) (fun x s₄=>
     wpAny `C' A (call (.builtin "list.append") [cR,x]) (fun _ s₅=>∃m,m<n/\I m s₅) (notedBy `C' A env fun e s'=>R `kM' s') s₄) (notedBy `C' A env fun e s'=>R `kM' s') s₃
    else ∃m,m<n/\I m s₃) (notedBy `C' A env fun e s'=>R `kM' s') s₂) (notedBy `C' A env fun e s'=>R `kM' s') s₁') (notedBy `C' A env fun e s'=>R `kM' s') s₁) (notedBy `C' A env fun e s'=>R `kM' s') s)
 (n:Nat) (h:I n s):
 codeAny `C' A (.compLoop (.ListComp elt [#[CW,iter,MD,0]] scope pos) 0 it cR env) R s:=by
 refine codeAny_loop rfl I (fun n s hI=>?_) n h;refine wpAny_noted ?_;rw[compTurn_list];refine ah (wpAny_standAt (ah (fH (GP n s hI) (fun r s₁ h₁=>?_) fun _ _ h'=>h')));cases r with
 |none=>exact aJ h₁
 |some v=>
  refine ah (fH h₁ (fun _ s₁' h₁'=>?_) fun _ _ h'=>h');refine ah (fH h₁' (fun _ s₂ h₂=>ah (fH h₂ (fun ok s₃ h₃=>?_) fun _ _ h'=>h')) fun _ _ h'=>h');cases ok with
  |false=>exact aJ #[rfl,h₃]
  |true=>
   exact ah (ah (fH h₃ (fun x s₄ h₄=>ah (fH h₄ (fun _ s₅ h₅=>aJ (aJ #[rfl,h₅])) fun _ _ h'=>h')) fun _ _ h'=>h'))
section
variable {X:Cx}
def tLc (wi:TI) (g:TG) (tt:TT) (te:TE) (vs:List Nat):TE:=fun σ H Q=>wi σ H fun J H1=>∀D,H1 D=none->∃W:Nat->Nat->Hp->Prop,(∃m,W 0 m (bO H1 D `bo'))/\∀i m H,W i m H->
 (J.stop i H/\Q `lJ' H)\/(J.go i H/\∃Nx:Hp->Prop,(∀H',Nx H'->∃m',m'<m/\W (i+1) m' H')/\∀x H',J.yld i H x H'->g x `dJ' H' fun σ2 H2=>ie σ2 vs=ie σ vs/\tt σ2 H2 fun b H3=>
  if b=true then te σ2 H3 fun y H4=>∃cR,H4 D=some `cM'/\cR.length<sizeLine/\Nx `bj' else Nx H3)
def Ky
 (hc:X.calm=true) (hN:X.N.Nodup) (I:cB X pins σ H s) (hi:PI X tg iter wi) (ok:Gg X.N X.env.scope scope own)
 (hg:∀(s:aS) (H:Hp) (C:ak) (cl:List (Str×ak)) (fp:List ak),PG `aa' tg g) (ht:∀(s:aS) (H:Hp) (C:ak) (cl:List (Str×ak)) (fp:List ak),PTs `aa' MD tt)
 (he:∀(s:aS) (H:Hp) (C:ak) (cl:List (Str×ak)) (fp:List ak),PE `aa' elt te) (hs:∀x,foldedSetIterable iter X.env x=pure x)
 (h:tLc wi g tt te (own.map (·.2)) σ H Q)
 (hRR:∀D C s' m H',cB X pins σ H' s'->Q `lJ' H'->s'.heap.Ns C m->vJ X pins H' C->compPost `Tm X.A X.xe use Qf `lJ' C (.ok .next) s'):
 wpAny `Tm X.A (comprehension `aQ' scope X.env wq (newList []) false (eval iter X.env) use) Qf X.xe s:=by
 have kI:∀y∈scope.names,y.2= .free->∃c,X.env.cells.lookup y.1=some c:=fun y hy e=>by
  rcases ok.free y hy e with k|k
  ·exact I.ok.has _ (.inl k)
  ·exact I.ok.has _ (.inr k)
 refine wpAny_comprehension_free rfl hs (Au kI) ok.kind (fun y hy e=>by rw[ok.uniq y hy,e])
  (iH `jj' fun xv s1 hx=>iH hx fun itv s2 h2=>?_)
 obtain⟨it,fp,tn,J,H2,e,I2,T,st2,f2,q⟩:=h2;subst e;refine eE (Ft ?_) (by show 0<=sizeLine;decide);generalize hD:s2.heap.objs.size=D;have UV:=I2.hok.fresh (jg hD);obtain⟨W,⟨m0,w0⟩,GP⟩:=q D UV;generalize Wk:({s2 with heap:=s2.heap.push {cls:=.type "list",data:=.seq ([]:List aA).toArray}}:aS)=s3;have I3:cB X pins σ (bO H2 D `bo') s3:=by
  rw[<-Wk];refine I2.laid (fun b o e=>ap _ e) (jg hD) #[aN _,[],0,.nil,?_];rw[<-hD];exact a7 _ rfl
 have h3:s3.heap=s2.heap.push {cls:=.type "list",data:=.seq ([]:List aA).toArray}:=by rw[<-Wk]
 have sz:∀b∈fp,b<s2.heap.objs.size:=fun b hb=>by
  obtain⟨o,e,_⟩:=T.obj _ _ st2 b hb;exact a8 e
 have f3:∀b∈fp,vJ X pins (bO H2 D `bo') b/\b<s3.heap.objs.size:=fun b hb=>by
  have jB:=sz b hb;refine#[#[?_,(f2 b hb).2],by rw[h3,b8];exact kn jB];rw[aZ (by rw[<-hD];exact cF jB)];exact(f2 b hb).1
 have st3:tn 0 s3.heap:=T.keep _ _ _ st2 fun b _ o e=>by rw[h3];exact ap _ e
 have I4:=Fk I3 ok hN f3;have pg:=hg s3 (bO H2 D `bo') s3.heap.objs.size `ag' fp;have pt:=ht s3 (bO H2 D `bo') s3.heap.objs.size `ag' fp;have pe:=he s3 (bO H2 D `bo') s3.heap.objs.size `ag' fp;show codeAny _ _ (.compStart `aQ' 0 `ea' `lJ' (compEnvC scope `ag' s3.heap.objs.size X.env)) (compPost `Tm X.A X.xe use Qf `lJ' s3.heap.objs.size) {s3 with heap:=pushCells `g8' scope.names};have nfp:=fun b hb=>(f3 b hb).1.1;generalize hce:compEnvC scope `ag' s3.heap.objs.size X.env=ce at I4 pg pt pe⊢
 have cL:ce.locals=s3.heap.objs.size:=by subst hce;rfl
 generalize hH3:bO H2 D `bo'=H3 at I3 I4 pg pt pe w0 nfp f3;generalize hs4:({s3 with heap:=pushCells `g8' scope.names}:aS)=s4 at I4⊢
 have st4:tn 0 s4.heap:=T.keep _ _ _ st3 fun b _ o e=>by rw[<-hs4];exact j0 _ _ _ _ (ap _ e)
 have GW:∀{σ':St} {H':Hp} {s':aS},cB `bP' [] σ' H' s'->(∀b∈fp,H' b=none)->∀b∈fp,vJ `bP' [] H' b:=fun{σ' H' s'} I' hn b hb=>
  #[hn b hb,(I'.ok.exf b hb).1,I'.ok.exfs b hb,.inl hb,fun x c e=>(I'.ok.exf b hb).2 x c e,fun p hp=>absurd (hp) `S']
 have Xo:codeAny `Tm X.A (.compLoop `aQ' 0 `ea' `lJ' ce) (compPost `Tm X.A X.xe use Qf `lJ' s3.heap.objs.size) s4:=by
  refine DT (fun n s'=>∃i H',cB `bP' [] (ie σ (own.map (·.2))) H' s'/\tn i s'.heap/\(∀b∈fp,H' b=none)/\W i n H') ?_ m0 #[0,H3,I4,st4,nfp,w0];rintro n s5 ⟨i,H5,I5,Wy,n5,w5⟩;rcases GP i n H5 w5 with⟨stop,qq⟩| ⟨go,Nx,hNx,step⟩
  ·have td:=T.done `bP' rfl rfl rfl hc i [] s5 _ H5 `nq' I5 (GW I5 n5) Wy stop;refine LW td fun r s6 ⟨hr,I6⟩=>?_;subst hr;have I7:=I3.call' I6.os I6.base I6.hok I6.bare fun b hb=>#[(f3 b hb).1.2.2.2.1,(f3 b hb).1.2.1,(f3 b hb).1.2.2.2.2.1,(f3 b hb).1.2.2.2.2.2]
   have nC:H5 s3.heap.objs.size=none:=by
    have z:=I6.free;rw[cL] at z;exact z
   obtain⟨m,hn,_⟩:=I6.loc;have hn:=hn;rw[cL] at hn;exact hRR D s3.heap.objs.size s6 m H5 I7 qq hn (I3.fpOk (ax _) nC)
  ·have ti:=T.item `bP' rfl rfl rfl hc i [] s5 _ H5 `nq' I5 (GW I5 n5) Wy go;refine LW ti fun r s6 ⟨u,hr,h6⟩=>?_;subst hr;refine LW h6 fun _ s7 ⟨x,H7,I7,r7,y7,st7,n7⟩=>?_;have I7':=I7.pinned (GW I7 n7) (T.obj _ _ st7);refine LW (pg _ s7 _ H7 x u _ I7' r7 (step x H7 y7)) fun _ s8 ⟨σ8,H8,I8,hw8,q8⟩=>?_;refine LW (pt _ s8 σ8 H8 _ I8 q8) fun b s9 ⟨H9,I9,q9⟩=>?_;have oH:∀{s':aS} {H':Hp},cB `bP' ([]++AJ fp s7.heap) σ8 H' s'->Nx H'->∃m,m<n/\∃i H',cB `bP' [] (ie σ (own.map (·.2))) H' s'/\tn i s'.heap/\(∀b∈fp,H' b=none)/\W i m H':=fun{s' H'} I' nx=>by
    obtain⟨m',hm,w'⟩:=hNx H' nx;have Zi:∀b∈fp,∀o,s7.heap.get? b=some o->s'.heap.get? b=some o/\H' b=none:=fun b hb o e=>
     let z:=I'.pin (b,o) `iN'
     #[z.1,z.2.1]
    have hl:(ie σ (own.map (·.2))).length=σ8.length:=by rw[<-hw8,sL]
    refine#[m',hm,i+1,H',(I'.unpinned).weak hl (fun j v e=>?_),T.keep _ _ _ st7 fun b hb o e=>(Zi b hb o e).1,fun b hb=>?_,w']
    ·rw[<-hw8] at e;exact(w8 e).1
    ·obtain⟨o,e,_⟩:=T.obj _ _ st7 b hb;exact(Zi b hb o e).2
   cases b with
   |false=>
    exact oH I9 q9
   |true=>
    refine LW (pe _ s9 σ8 H9 _ I9 q9) fun z s10 ⟨yv,H10,I10,r10,cR,aaT,abz,nx⟩=>?_;exact VS (X:=X.blk s3 H3 scope ce fp) I10 aaT abz r10 fun s11 I11=>oH I11 nx
 exact codeAny_compStart_list Xo (T.self X.A 0 _ _ _ st4 Xo)
def jN (hc:X.calm=true) (hN:X.N.Nodup) (hi:PI X tg iter wi) (ok:Gg X.N X.env.scope scope own)
 (hg:∀(s:aS) (H:Hp) (C:ak) (cl:List (Str×ak)) (fp:List ak),PG `aa' tg g) (ht:∀(s:aS) (H:Hp) (C:ak) (cl:List (Str×ak)) (fp:List ak),PTs `aa' MD tt)
 (he:∀(s:aS) (H:Hp) (C:ak) (cl:List (Str×ak)) (fp:List ak),PE `aa' elt te) (hs:∀x,foldedSetIterable iter X.env x=pure x:=by intro _;rfl):
 PE X `aQ' (tLc wi g tt te (own.map (·.2))):=by
 show 3;rw[eval_ListComp];refine Ky hc hN I hi ok hg ht he hs h fun D C s' m H' I' q hn f=>#[m,hn,fun Wx sb=>?_]
 obtain⟨f0,f1,f2,f3,f4,f5⟩:=f;exact#[.ref D,H',I'.turned `dg' f0 f1 f3 f4 f5,rfl,q]
def rh (hc:X.calm=true) (hN:X.N.Nodup) (hy:X.N[i]? =some y) (hyl:X.env.scope.names.lookup y=some .local)
 (hsw:swapsWith `aQ' (some (.Name y py)) spos.line X.env=pure true) (hi:PI X tg iter wi) (ok:Gg X.N X.env.scope scope own)
 (hg:∀(s:aS) (H:Hp) (C:ak) (cl:List (Str×ak)) (fp:List ak),PG `aa' tg g) (ht:∀(s:aS) (H:Hp) (C:ak) (cl:List (Str×ak)) (fp:List ak),PTs `aa' MD tt)
 (he:∀(s:aS) (H:Hp) (C:ak) (cl:List (Str×ak)) (fp:List ak),PE `aa' elt te) (hs:∀x,foldedSetIterable iter X.env x=pure x:=by intro _;rfl):
 PS X (.Assign [.Name y py] `aQ' spos) (Wa (tLc wi g tt te (own.map (·.2))) (ss i)):=by
 show 13;rw[exec_Assign_Name_used _ _ _ _ hsw];refine ah (wpAny_standAt (ah ?_));have h:=h;refine ah (iH (Ky hc hN I hi ok hg ht he hs h fun L C s' m H' I' q hn f=>?_) fun _ s' hq=>aJ (aJ hq));refine wpAny_assign_Name (Cd (v:=V.ref L) I' hN hy (.inl hyl) rfl (fun s2 I2 ⟨a,sb,ha⟩=>?_) (.inr hyl));obtain⟨f0,f1,f2,f3,f4,f5⟩:=f;have haC:C≠a:=by
  rcases ha with z|z
  ·rw[z];exact f1
  ·exact fun e=>f4 y a z e.symm
 refine#[m,hn.sameBut sb haC,fun h3 sb3=>?_];exact#[_,H',I2.turned (fun b o hb e=>(sb3.2 b hb).trans e) f0 f1 f3 f4 f5,q]
def tS (hk:env.scope.kind= .function) (hy:env.scope.names.lookup y=some .local) (hl:(py.line==pos.line)=true)
 (ha:(scope.names.any fun(n,k)=>n==y&&(k== .local||k== .cell))=false):swapsWith (.ListComp elt gs scope pos) (some (.Name y py)) l env=pure true:=by
 have ky:env.kindOf y=some .local:=hy;have hb:env.blockKind= .function:=by unfold Env.blockKind;rw[hk];rfl
 unfold swapsWith;simp only[hb,ky,ha,Expr.pos,hl];rfl
end
def P5 {lo:Int} {g:TG} {tt:TT} {te:TE} {Qd:Hp->Prop} (Pv:Nat->Hp->Prop) (h0:Pv 0 (bO H1 D `bo'))
 (hs:∀i H,i<n->Pv i H->g (.int (lo+i)) `dJ' H fun σ2 H2=>ie σ2 vs=ie σ vs/\tt σ2 H2 fun b H3=>
  if b=true then te σ2 H3 fun y H4=>∃cR,H4 D=some `cM'/\cR.length<sizeLine/\Pv (i+1) `bj' else Pv (i+1) H3) (hd:∀H,Pv n H->Qd H):
 ∃W:Nat->Nat->Hp->Prop,(∃m,W 0 m (bO H1 D `bo'))/\∀i m H,W i m H->
  ((L6 lo n).stop i H/\Qd H)\/((L6 lo n).go i H/\∃Nx:Hp->Prop,(∀H',Nx H'->∃m',m'<m/\W (i+1) m' H')/\∀x H',(L6 lo n).yld i H x H'->g x `dJ' H' fun σ2 H2=>ie σ2 vs=ie σ vs/\tt σ2 H2 fun b H3=>
   if b=true then te σ2 H3 fun y H4=>∃cR,H4 D=some `cM'/\cR.length<sizeLine/\Nx `bj' else Nx H3):=by
 refine#[fun i m H=>m=n - i/\i<=n/\Pv i H,#[n,by simp,aN _,h0],?_];rintro i m H ⟨rfl,hi,p⟩;by_cases jB:i<n
 ·refine .inr #[jB,Pv (i+1),fun H' p'=>`dN',fun x H' y=>?_];obtain⟨e,y⟩:=y;subst e y;exact hs i _ jB p
 ·have e:i=n:=by omega
  subst e;exact .inl #[ax _,hd H p]
def Kp {K:ai} {g:TG} {tt:TT} {te:TE} {Qd:Hp->Prop} (Pv:Nat->Hp->Prop) (h0:Pv 0 (bO H1 D `bo')) (hl:∀i H,i<=xs.length->Pv i H->SqL K H a xs)
 (hs:∀i x H,xs[i]? =some x->Pv i H->g x `dJ' H fun σ2 H2=>ie σ2 vs=ie σ vs/\tt σ2 H2 fun b H3=>
  if b=true then te σ2 H3 fun y H4=>∃cR,H4 D=some `cM'/\cR.length<sizeLine/\Pv (i+1) `bj' else Pv (i+1) H3) (hd:∀H,Pv xs.length H->Qd H):
 ∃W:Nat->Nat->Hp->Prop,(∃m,W 0 m (bO H1 D `bo'))/\∀i m H,W i m H->
  ((QT K a).stop i H/\Qd H)\/((QT K a).go i H/\∃Nx:Hp->Prop,(∀H',Nx H'->∃m',m'<m/\W (i+1) m' H')/\∀x H',(QT K a).yld i H x H'->g x `dJ' H' fun σ2 H2=>ie σ2 vs=ie σ vs/\tt σ2 H2 fun b H3=>
   if b=true then te σ2 H3 fun y H4=>∃cR,H4 D=some `cM'/\cR.length<sizeLine/\Nx `bj' else Nx H3):=by
 show 121
 ·show 66
 ·have e:i=xs.length:=by omega
  subst e;exact .inl #[`m2',hd H p]
def IP {K:ai} {g:TG} {tt:TT} {te:TE} {Qd:Hp->Prop} (Pv:Nat->Hp->Prop) (h0:Pv 0 (bO H1 D `bo')) (hl:∀i H,i<=xs.length->Pv i H->iX K H a xs)
 (hs:∀i x H,xs[i]? =some x->Pv i H->g x `dJ' H fun σ2 H2=>ie σ2 vs=ie σ vs/\tt σ2 H2 fun b H3=>
  if b=true then te σ2 H3 fun y H4=>∃cR,H4 D=some `cM'/\cR.length<sizeLine/\Pv (i+1) `bj' else Pv (i+1) H3) (hd:∀H,Pv xs.length H->Qd H):
 ∃W:Nat->Nat->Hp->Prop,(∃m,W 0 m (bO H1 D `bo'))/\∀i m H,W i m H->
  ((WF K a).stop i H/\Qd H)\/((WF K a).go i H/\∃Nx:Hp->Prop,(∀H',Nx H'->∃m',m'<m/\W (i+1) m' H')/\∀x H',(WF K a).yld i H x H'->g x `dJ' H' fun σ2 H2=>ie σ2 vs=ie σ vs/\tt σ2 H2 fun b H3=>
   if b=true then te σ2 H3 fun y H4=>∃cR,H4 D=some `cM'/\cR.length<sizeLine/\Nx `bj' else Nx H3):=by
 show 121
 ·show 66
 ·have e:i=xs.length:=by omega
  subst e;exact .inl #[`m2',hd H p]
def Z6 (N:List Str) (sc scope:ju) (own:List (Str×Nat)):Bool:=
 (match scope.kind with| .function=>true|_=>false)&&(scope.names.all fun y=>decide (scope.names.lookup y.1=some y.2))&&(own.all fun p=>decide (N[p.2]? =some p.1))&&
  (scope.names.all fun y=>match y.2 with
   | .free=>(match sc.names.lookup y.1 with|some .cell=>true|some .free=>true|_=>false)
   | .local=>decide (y.1∈own.map (·.1))||decide (y.1∉N)
   | .cell=>decide (y.1∈own.map (·.1))||decide (y.1∉N)
   |_=>true)
def di (h:Z6 N sc scope own=true):Gg N sc scope own:=by
 unfold Z6 at h;simp only[aX,eY,bK] at h;obtain⟨⟨⟨h1,h2⟩,h3⟩,h4⟩:=h;refine#[?_,h2,h3,fun y hy e=>?_,fun y hy e=>?_]
 ·split at h1
  ·assumption
  ·cases h1
 ·have q:=h4 y hy;simp only[e] at q
  split at q<;>first|exact .inl (by assumption)|exact .inr (by assumption)|cases q
 ·have q:=h4 y hy;rcases e with e|e<;>(simp only[e,lT,bK] at q;exact q)
section
variable {κ:Type} [DecidableEq κ]
def iA (kvs:List (κ×V)) (k:κ):Option V:=(kvs.find? fun kv=>decide (kv.1=k)).map (·.2)
def ml (kvs:List (κ×V)) (k:κ) (v:V):List (κ×V):=
 if `cc'=true then kvs.map (fun kv=>if kv.1=k then(kv.1,v) else kv) else kvs++[(k,v)]
def lA (kvs:List (κ×V)) (k:κ):List (κ×V):=kvs.filter fun kv=>decide (kv.1≠k)
def Fh:iA ([]:List (κ×V)) k=none:=rfl
def jl {k:κ} (e:p.1=k):iA (p::r) k=some p.2:=by simp[iA,jb,e]
def iT {k:κ} (e:¬p.1=k):iA (p::r) k=iA r k:=by simp[iA,jb,e]
def sZ (k:κ):∀kvs:List (κ×V),`cc'=(iA kvs k).isSome
 | []=>rfl
 |p::r=>by
  rw[List.any_cons];show 189
  ·simp only[jl e,bp e,rD,Option.isSome_some]
  ·rw[iT e,bS e,Bool.false_or];exact sZ k r
def F8 (k j:κ) (y:V):∀kvs:List (κ×V),iA `dx' j=(iA kvs j).map fun x=>if j=k then y else x
 | []=>rfl
 |p::r=>by
  have ih:=F8 k j y r;rw[bw];by_cases h:p.1=k
  ·rw[aD h];by_cases e:p.1=j
   ·rw[jl (p:=(p.1,y)) e,jl e,lR,aD (e.symm.trans h)]
   ·rw[iT (p:=(p.1,y)) e,iT e,ih]
  ·rw[au h];by_cases e:p.1=j
   ·rw[jl e,jl e,lR,au (fun z=>h (e.trans z))]
   ·rw[iT e,iT e,ih]
def CJ (k j:κ) (y:V):∀kvs:List (κ×V),iA kvs k=none->iA (kvs++[(k,y)]) j=if j=k then some y else iA kvs j
 | [],_=>by
  by_cases e:k=j
  ·rw[aD e.symm];exact jl e
  ·rw[au (fun z=>e z.symm)];exact iT e
 |p::r,hn=>by
  rw[lh];have hk:¬p.1=k:=fun z=>by rw[jl z] at hn;cases hn
  rw[iT hk] at hn;have ih:=CJ k j y r hn;by_cases e:p.1=j
  ·rw[jl e,jl e,au (fun z=>hk (e.trans z))]
  ·rw[iT e,iT e,ih]
def PM (kvs:List (κ×V)) (k j:κ) (y:V):iA (ml kvs k y) j=if j=k then some y else iA kvs j:=by
 unfold ml;by_cases a:`cc'=true
 ·rw[aD a,F8];rw[sZ] at a;by_cases e:j=k
  ·obtain⟨x,hx⟩:=jr.mp a;rw[aD e,e,hx,lR,aD rfl]
  ·rw[au e];cases iA kvs j with
   |none=>rfl
   |some x=>rw[lR,au e]
 ·rw[au a];refine CJ k j y kvs ?_;rw[sZ] at a;cases q:iA kvs k with
  |none=>rfl
  |some x=>rw[q] at a;exact(a rfl).elim
def xO (kvs:List (κ×V)) (k:κ) (v:V):(ml kvs k v).length<=kvs.length+1:=by
 unfold ml
 split
 ·rw[ae];omega
 ·rw[aE,aF,ja];omega
def EG {k:κ} (v:V) (h:iA kvs k=none):ml kvs k v=kvs++[(k,v)]:=by
 unfold ml;rw[sZ,h];exact au `KK
def sD.isSome_eq (r:sD o u):o.isSome=u.isSome:=by
 cases o with
 |none=>cases u with
  |none=>rfl
  |some _=>exact(r).elim
 |some _=>cases u with
  |none=>exact(r).elim
  |some _=>rfl
def KV.val (r:KV kvs vs) (k:κ):sD (iA kvs k) (valueAt vs k):=by
 induction r with
 |nil=>exact True.intro
 | @cons p q ps qs h t ih=>
  obtain⟨h1,h2⟩:=h;show 189
  ·have e':=h1.symm.trans e;have b:valueAt (q::qs) k=some q.2:=by simp[valueAt,jb,e']
   rw[jl e,b];exact h2
  ·show 233;have b:valueAt (q::qs) k=valueAt qs k:=by simp[valueAt,jb,e']
   rw[iT e,b];exact ih
def KV.any (r:KV kvs vs) (k:κ):`cc'=vs.any fun kv=>decide (kv.1=k):=by
 induction r with
 |nil=>rfl
 |cons h t ih=>rw[List.any_cons,List.any_cons,ih,h.1]
def KV.repl (r:KV kvs vs) (k:κ) (ry:ff y u):
 KV `dx' (vs.map fun kv=>if kv.1=k then(kv.1,u) else kv):=by
 induction r with
 |nil=>exact .nil
 | @cons p q ps qs h t ih=>
  rw[bw,bw];refine .cons ?_ ih;obtain⟨h1,h2⟩:=h;show 189
  ·rw[aD e,aD (h1.symm.trans e)];exact#[h1,ry]
  ·rw[au e,au (fun z=>e `kr')];exact `lC'
def KV.put (r:KV kvs vs) (k:κ) (ry:ff y u):KV (ml kvs k y) (stored vs k u):=by
 unfold ml stored;rw[r.any k];by_cases e:(vs.any fun kv=>decide (kv.1=k))=true
 ·rw[aD e,aD e];exact r.repl k ry
 ·rw[au e,au e];exact snoc r #[rfl,ry]
def KV.drop (r:KV kvs vs) (k:κ):KV (lA kvs k) (without vs k):=by
 unfold lA without
 induction r with
 |nil=>exact .nil
 | @cons p q ps qs h t ih=>
  obtain⟨h1,h2⟩:=h;rw[le,le];show 189
  ·have a:¬decide (p.1≠k)=true:=by simp[e]
   have b:¬decide (q.1≠k)=true:=by simp[h1.symm.trans e]
   rw[au a,au b];exact ih
  ·show 233;have a:decide (p.1≠k)=true:=by simp[e]
   have b:decide (q.1≠k)=true:=by simp[e']
   rw[aD a,aD b];exact .cons `lC' ih
def KV.length (r:KV kvs vs):kvs.length=vs.length:=bH r
def FQ (kvs:List (κ×V)) (k:κ):(lA kvs k).length<=kvs.length:=fc _ _
end
def AA (r:ff (kV k) u):(ij P w).is k u=true:=by
 cases k with
 |inl i=>obtain⟨t,e⟩:=(r);subst e;exact F0 P w i t
 |inr x=>obtain⟨t,e⟩:=(r);subst e;exact FR P w x t
def B1:∀{ks:List nB} {us:List aA},dy (ks.map kV) us->ItemsAre `hA' ks us
 | [],_,r=>by rw[List.map_nil] at r;cases r;exact .nil
 |k::ks,_,r=>by
  rw[bw] at r;cases r with
  |cons h t=>exact .cons (AA h) (B1 t)
abbrev KT (H:Hp):List (List nB×V)->List (List nB×ak×aA)->Prop:=Paired fun p q=>p.1=q.1/\H q.2.1=some (.tup (p.1.map kV))/\ff p.2 q.2.2
def KT.val (r:KT H kvs xs) (k:List nB):sD (iA kvs k) ((atKey xs k).map (·.2)):=by
 induction r with
 |nil=>exact True.intro
 | @cons p q ps qs h t ih=>
  obtain⟨h1,_,h2⟩:=h;show 189
  ·have e':=h1.symm.trans e;have b:atKey (q::qs) k=some q.2:=by simp[atKey,jb,e']
   rw[jl e,b];exact h2
  ·show 233;have b:atKey (q::qs) k=atKey qs k:=by simp[atKey,jb,e']
   rw[iT e,b];exact ih
def KT.repl (r:KT H kvs xs) (k:List nB) (ry:ff y u):
 KT H `dx' (xs.map (putAt k u)):=by
 induction r with
 |nil=>exact .nil
 | @cons p q ps qs h t ih=>
  rw[bw,bw];refine .cons ?_ ih;obtain⟨h1,h2,h3⟩:=h;unfold putAt;show 189
  ·rw[aD e,aD (h1.symm.trans e)];exact#[h1,h2,ry]
  ·rw[au e,au (fun z=>e `kr')];exact `ju'
def KT.put (r:KT H kvs xs) (k:List nB) (hb:H b=some `gh') (ry:ff y u):
 KT H (ml kvs k y) (storedH xs k b u):=by
 have e:`cc'=(atKey xs k).isSome:=by
  rw[sZ,(r.val k).isSome_eq,Option.isSome_map]
 unfold ml storedH;rw[e];by_cases q:(atKey xs k).isSome=true
 ·rw[aD q,aD q];exact r.repl k ry
 ·rw[au q,au q];exact snoc r #[rfl,hb,ry]
def KT.keeps (r:KT H kvs xs) (ht:∀b ys,H b=some `eb'->H' b=some `eb'):KT H' kvs xs:=
 Paired.mapP r fun _ _ z=>#[z.1,ht _ _ z.2.1,z.2.2]
section
variable {P:bN} {w:cV} {H:Hp} {h:cZ} {a:ak}
def TX (ok:sG P w H h) (e:Rd H a u):kW P w H h a u:=e.ok ok
def Cc (ok:sG P w H h) (e:Rd H a `da'):kvs.length<=sizeLine/\`d3'=false/\∃vs,KV kvs vs/\h.DictOf `hA' a vs:=
 show kW P w H h a `da' from TX ok e
def J5 (ok:sG P w H h) (e:H a=some `da'):kvs.length<=sizeLine/\`d3'=false/\∃vs,KV kvs vs/\h.DictOf `hA' a vs:=Cc ok (.inl e)
def Ai (ok:sG P w H h) (e:H a=some (.tup (ks.map kV))):(tupleKind `hA').is h ks a:=by
 obtain⟨_,its,r,o,h1,h2,n,h3⟩:=(ok a _ e)
 exact#[o,its.toArray,n,h1,h2,h3,by simpa using B1 r]
def Fi (ok:sG P w H h) (e:Rd H a `hd'):kvs.length<=sizeLine/\`d3'=false/\
 ∃xs,KT H kvs xs/\h.DictOfH (tupleKind `hA') a xs:=by
 obtain⟨z,y,xs,r,o,es,ep,h1,h2,h3,h4,h5⟩:=(TX ok e)
 refine#[z,y,xs,r,o,es,ep,h1,h2,h3,h4,fun x hx=>?_,h5];have all:∀{l:List (List nB×V)} {m:List (List nB×ak×aA)},KT H l m->∀x∈m,(tupleKind `hA').is h x.1 x.2.1:=by
  intro l m q
  induction q with
  |nil=>intro x hx;exact nomatch hx
  | @cons p q ps qs hq t ih=>
   intro x hx;rcases bh.mp hx with e|hx
   ·subst e;exact Ai ok (by rw[<-hq.1];exact hq.2.1)
   ·exact ih x hx
 exact all r x hx
def Jw (ok:sG P w H h) (e:H a=some `hd'):kvs.length<=sizeLine/\`d3'=false/\
 ∃xs,KT H kvs xs/\h.DictOfH (tupleKind `hA') a xs:=Fi ok (.inl e)
end
def l9 (H:Hp) (a:ak) (y:V) (r:Option V):Prop:=
 (∃kvs k,Rd H a `da'/\y=kV k/\r=iA kvs k)\/∃kvs k b,Rd H a `hd'/\y= .ref b/\H b=some `gh'/\r=iA kvs k
def D6 (H:Hp) (a:ak) (y v:V) (H':Hp):Prop:=
 (∃kvs k,H a=some `da'/\y=kV k/\kvs.length<sizeLine/\H'=bO H a (.dK `nx'))\/
 ∃kvs k b,H a=some `hd'/\y= .ref b/\H b=some `gh'/\kvs.length<sizeLine/\H'=bO H a (.dT `nx')
def l9.k {k:nB} (e:H a=some `da'):l9 H a (kV k) (iA kvs k):=.inl #[kvs,k,.inl e,rfl,rfl]
def D6.k {k:nB} (e:H a=some `da') (hl:kvs.length<sizeLine):D6 H a (kV k) v (bO H a (.dK `nx')):=.inl #[kvs,k,e,rfl,hl,rfl]
def D6.t {k:List nB} (e:H a=some `hd') (eb:H b=some `gh') (hl:kvs.length<sizeLine):
 D6 H a `i4' v (bO H a (.dT `nx')):=.inr #[kvs,k,b,e,rfl,eb,hl,rfl]
section
variable {X:Cx} {pins:List (ak×Obj)} {σ:St} {H:Hp} {s:aS} {a:ak} {y v:V} {u r:aA} {o:Option V} {A:dY} {E:aA->aS->Prop}
def cB.big (I:cB X pins σ H s):sysModules<s.heap.objs.size:=by
 have h:=(I.mod.glob.keeps I.bk).lt;exact Nat.lt_trans `KK h
def K9 (hu:A.units+1<cLine) (I:cB X pins σ H s) (g:l9 H a y `eG') (ry:ff y u) (h:∀w' s',cB X pins σ H s'->ff v w'->Q w' s'):
 wpAny `Tm A (getItem `bu' u) Q E s:=by
 show 216
 ·subst ey;show 164;show 205;exact wpAny_getItem_of (AA ry) dd.mapOf hw (h w' _ `mM' GJ)
 ·show 218;show 205;obtain⟨p,hp,Ey⟩:=fw.mp hw;refine wpAny_getItem_heap (lY hu) (Ai I.hok eb) dd hp ?_;rw[Ey];exact h w' _ `mM' GJ
def Sv (hu:A.units+1<cLine) (I:cB X pins σ H s) (g:l9 H a y o) (ry:ff y u) (h:∀s',cB X pins σ H s'->Q (.bool (!o.isSome)) s'):
 wpAny `Tm A (compareOp .NotIn u `bu') Q E s:=by
 show 216
 ·subst ey;show 164;refine wpAny_notIn_of (AA ry) hd dd.mapOf ?_;rw[<-(qb.val k).isSome_eq,<-l];exact h _ `mM'
 ·show 218;refine wpAny_notIn_heap (lY hu) (Ai I.hok eb) hd dd ?_;have q:=(qb.val k).isSome_eq;rw[Option.isSome_map] at q;rw[<-q,<-l];exact h _ `mM'
def vO (I:cB X pins σ H s) (mu:Z7 (H a)) (hs:Heap.SameBut a s.heap h') (he:∃q,h'.get? a=some q) (new:kW X.prog X.w (bO H a ob) h' a ob):
 cB X pins σ (bO H a ob) {s with heap:=h',toks:=t'}:=
 I.write mu `a8' (fun b q hb z=>(hs.2 b hb).trans z) he new
def Ie (z:kvs.length<=sizeLine) (hd:`d3'=false) (qb:KV kvs vs) (dd:h'.DictOf `hA' a vs):
 kW P w H' h' a `da':=#[z,hd,vs,qb,dd]
def Mp (hu:A.units+1<cLine) (I:cB X pins σ H s) (g:D6 H a y v H') (ry:ff y u) (rv:ff v r) (h:∀s',cB X pins σ H' s'->Q () s'):
 wpAny `Tm A (setItem `bu' u r) Q E s:=by
 rcases g with⟨kvs,k,e,ey,l,eH⟩| ⟨kvs,k,b,e,ey,eb,l,eH⟩
 ·subst ey eH;obtain⟨z,hd,vs,qb,dd⟩:=J5 I.hok e;have hz:vs.length<=sizeLine:=by rw[<-qb.length];exact z
  show 177
  refine wpAny_setItem_pairs (AA ry) dd fun h' MR hs=>h _ ?_;have he:∃q,h'.get? a=some q:=let⟨q,_,_,hq,_⟩:=MR;#[q,hq]
  exact vO I `ce' hs he (Ie hl hd (qb.put k rv) MR)
 ·subst ey eH;cases(ry);obtain⟨z,hd,xs,qb,dd⟩:=Jw I.hok e;have hz:xs.length<=sizeLine:=by rw[<-bH qb];exact z
  show 177
  refine wpAny_setItem_heap (lY hu) (Ai I.hok eb) dd fun h' MR hs=>h _ ?_;obtain⟨q,es,ep,hq,h2,h3,h4,_,h5⟩:=MR;refine vO I `ce' hs #[q,hq] #[hl,hd,_,(qb.put k eb rv).keeps fun c ys ec=>?_,q,es,ep,hq,h2,h3,h4,h5];rw[aZ (eD ec e `dI')];exact ec
end
section
variable {X:Cx} {pins:List (ak×Obj)} {σ:St} {H:Hp} {s:aS} {a:ak} {kvs:List (nB×V)} {k:nB} {u:aA} {A:dY} {E:aA->aS->Prop}
def Z3 (I:cB X pins σ H s) (e:H a=some `da') (ry:ff (kV k) u) (l:iA kvs k=some v) (hm:more=[]\/∃x,more=[x])
 (h:∀w' s',cB X pins σ (bO H a (.dK (lA kvs k))) s'->ff v w'->Q w' s'):wpAny `Tm A (call (.builtin "dict.pop") (.ref a::u::more)) Q E s:=by
 obtain⟨z,hd,vs,qb,dd⟩:=J5 I.hok e;obtain⟨w',hw,GJ⟩:=sD.some_of `nJ';have hp:(keyPart u).isSome=true:=by
  cases k with
  |inl i=>obtain⟨t,q⟩:=(ry);subst q;rfl
  |inr x=>obtain⟨t,q⟩:=(ry);subst q;rfl
 have ha:argsOk "dict.pop" #[.ref a::u::more,[]]:=by
  rcases hm with q| ⟨x,q⟩
  ·subst q;exact PySem.F.args_dict_pop_2 _ _
  ·subst q;exact PySem.F.args_dict_pop_3 _ _ _
 refine call_meetsIn PySem.F.slot_dict_pop dd.typeIs PySem.F.entry_dict_pop ha (meets_dict_pop_there (ij X.prog X.w) a (AA ry) more hm hp)
  #[vs,w',dd,by rw[<-qb.length];exact z,hw,fun h' MR hs=>h w' _ ?_ GJ]
 have he:∃q,h'.get? a=some q:=let⟨q,_,_,hq,_⟩:=MR;#[q,hq]
 exact vO I `ce' hs he (Ie (aU (FQ kvs k) z) hd (qb.drop k) MR)
def aab (I:cB X pins σ H s) (e:Rd H a `da') (h:∀t s',cB X pins σ H s'->Q (.int kvs.length t) s'):wpAny `Tm A (call `gL' `eH') Q E s:=by
 show 164;refine call_len_dict hd dd (by rw[<-qb.length];rw[mq] at z;omega) ?_;rw[<-qb.length];exact h _ _ `mM'
end
def Vj (i:Expr):Prop:=∀ov iv,subscripted i false ov iv=operate [ov,iv] (getItem ov iv)
def JU {T id:String}
 (hl:typeLookup (.type T) "__getitem__"=pure (some `e4')) (hs:Vj xq)
 (h:wpAny `C' A (eval qg env) (fun o s₁=>wpAny `C' A (eval xq env) (fun i s₂=>s₂.TypeIs o T/\wpAny `C' A (getItem o i) Q E s₂) E s₁) E s):
 wpAny `C' A (eval (.Subscript qg xq pos) env) Q E s:=by
 refine Subscript_ (fH h (fun o s₁ h₁=>fH h₁ (fun i s₂ h₂=>?_) fun _ _ x=>x) fun _ _ x=>x);obtain⟨hT,h₂⟩:=h₂;refine ah ?_;rw[getitemInPython_of_ne hT.not_modules];refine ah (wpAny_specialOf hT hl ?_);have oH:wpAny `C' A (subscripted xq false o i) (fun r s₃=>wpAny `C' A (letTemporaryGo qg o r >>= fun _=>pure r) Q E s₃) E s₂:=by
  rw[hs o i];exact wpAny_operating (fH h₂ (fun r s₃ h₃=>ah (wpAny_letTemporaryGo (aJ h₃))) fun _ _ x=>x)
 first
  |exact aJ (ah oH)
  |exact ah (aJ (ah oH))
  |exact ah oH
def Fc (I:cB X pins σ H s) (g:l9 H a y o):s.TypeIs `bu' "dict":=by
 rcases g with⟨kvs,k,e,_,_⟩| ⟨kvs,k,b,e,_,_,_⟩
 ·obtain⟨_,_,vs,_,dd⟩:=Cc I.hok e;exact dd.typeIs
 ·obtain⟨_,_,xs,_,dd⟩:=Fi I.hok e;exact dd.typeIs
def aav (td ty:TE):TE:=fun σ H Q=>td σ H fun x H1=>ty σ H1 fun y H2=>∃a v,x= .ref a/\l9 H2 a y `eG'/\Q v H2
def S4 (ty td:TE):TE:=fun σ H Q=>ty σ H fun y H1=>td σ H1 fun x H2=>∃a o,x= .ref a/\l9 H2 a y o/\Q (.bl (!o.isSome)) H2
def ZV (td ty tv:TE):TS:=fun D σ H=>tv σ H fun v H1=>td σ H1 fun x H2=>ty σ H2 fun y H3=>∃a H4,x= .ref a/\D6 H3 a y v H4/\D.nx σ H4
section
variable {X:Cx} {o i e qg:Expr} {pos wq GS:Pos} {td ty tv:TE}
def o1 (hu:X.A.units+1<cLine) (ho:PE X o td) (hi:PE X i ty) (hs:Vj i):PE X `gK' (aav td ty):=by
 show 3;refine JU PySem.F.slot_dict_getitem.lookup hs (iH `cw' fun u s1 ⟨x,H1,I1,rx,q1⟩=>iH `hz' fun iv s2 ⟨y,H2,I2,ry,a,v,ex,g,q2⟩=>?_);show 85;exact#[Fc I2 g,K9 hu I2 g ry fun w' s3 I3 GJ=>#[v,H2,I3,GJ,q2]]
def pk (hu:X.A.units+1<cLine) (hi:PE X i ty) (ho:PE X o td):PC X .NotIn i o (S4 ty td):=by
 show 3;refine iH `jj' fun iv s1 ⟨y,H1,I1,ry,q1⟩=>iH (ho pins s1 σ H1 _ I1 q1) fun u s2 ⟨x,H2,I2,rx,a,ov,ex,g,q2⟩=>?_;show 85;exact Sv hu I2 g ry fun s3 I3=>#[.bl (!ov.isSome),H2,I3,rfl,q2]
def DP (hu:X.A.units+1<cLine) (ho:PE X o td) (hi:PE X i ty) (hv:PE X qg tv) (hs:swapsWith qg (some (.Subscript o i wq)) pos.line X.env=pure false):
 PS X (.Assign [.Subscript o i wq] qg pos) (ZV td ty tv):=by
 show 13;refine wpAny_Assign_Subscript (iH (hv pins s σ H _ I h) fun r s1 ⟨v,H1,I1,rv,q1⟩=>iH (ho pins s1 σ H1 _ I1 q1) fun u s2 ⟨x,H2,I2,rx,q2⟩=>iH (hi pins s2 σ H2 _ I2 q2) fun iv s3 ⟨y,H3,I3,ry,a,H4,ex,g,q3⟩=>?_) hs;show 85;exact Mp hu I3 g ry rv fun s4 I4=>#[σ,H4,I4,q3]
end
def QB (h:cZ) (hb:sysModules<h.objs.size):kW P w H `if' h.objs.size (.dK []):=
 #[aN _,gz.mpr (je (cF hb)),[],.nil,Heap.DictOf.new h]
def P8 (h:cZ) (hb:sysModules<h.objs.size):kW P w H `if' h.objs.size `m6':=
 #[aN _,gz.mpr (je (cF hb)),[],.nil,_,#[],0,a7 _ rfl,#[rfl,rfl,rfl],rfl,rfl,List.nodup_nil]
def V3:TE:=fun _ H Q=>∀p,H p=none->Q `dR' (bO H p (.dK []))
def VA:TE:=fun _ H Q=>∀p,H p=none->Q `dR' (bO H p `m6')
section
variable {X:Cx} {pos:Pos}
def E4:PE X `ms' V3:=fun pins s σ H Q I h=>
 wpAny_Dict_empty #[.ref s.heap.objs.size,_,I.laid `k3' (ax _) (QB s.heap I.big),rfl,h _ `cj']
def yJ:PE X `ms' VA:=fun pins s σ H Q I h=>
 wpAny_Dict_empty #[.ref s.heap.objs.size,_,I.laid `k3' (ax _) (P8 s.heap I.big),rfl,h _ `cj']
end
structure M1 (X:Cx) (o:Expr) (m:Str) (apos:Pos) (e:Expr) (cpos:Pos):Prop where
 base:attributeBase o m X.env `k0'=eval o X.env
 few:((backTo cpos `ku').all (fun x=> !x.1)&&(backToKw cpos `gc').all `k8'
  &&decide (([e]:List Expr).length+([]:List Keyword).length+`dZ'<30))=true
 line:`e8'=true
 trees:backTo cpos `ku'=`el'
structure M2 (X:Cx) (o:Expr) (m:Str) (apos:Pos) (e f:Expr) (cpos:Pos):Prop where
 base:attributeBase o m X.env `k0'=eval o X.env
 few:((backTo cpos (starEach [e,f] X.env)).all (fun x=> !x.1)&&(backToKw cpos `gc').all `k8'
  &&decide (([e,f]:List Expr).length+([]:List Keyword).length+`dZ'<30))=true
 line:`e8'=true
 trees:backTo cpos (starEach [e,f] X.env)=[(false,eval e X.env),(false,eval f X.env)]
def IsD (H:Hp) (a:ak):Prop:=(∃kvs,Rd H a `da')\/∃kvs,Rd H a `hd'
def PJ (I:cB X pins σ H s) (d:IsD H a):
 s.TypeIs `bu' "dict"/\(∀b,Value.ref a= .ref b->∃ob,s.heap.get? b=some ob/\ob.dict=none)/\`d3'=false:=by
 rcases d with⟨kvs,e⟩| ⟨kvs,e⟩
 ·obtain⟨_,hd,vs,_,dd⟩:=Cc I.hok e;show 153
 ·obtain⟨_,hd,xs,_,dd⟩:=Fi I.hok e;show 153
def VC (td ty:TE):TE:=fun σ H Q=>td σ H fun x H1=>∃a,x= .ref a/\IsD H1 a/\ty σ H1 fun y H2=>∃kvs k v,H2 a=some `da'/\y=kV k/\iA kvs k=some v/\Q v (bO H2 a (.dK (lA kvs k)))
section
variable {X:Cx} {o e f:Expr} {apos cpos:Pos} {td ty tx:TE}
def Po (ho:PE X o td) (he:PE X e ty) (m:M1 X o "pop" apos e cpos):PE X (.Call (.Attribute o "pop" apos) [e] [] cpos) (VC td ty):=by
 show 3;refine wpAny_Call_method m.base m.few m.line PySem.F.plainAttrs_dict PySem.F.slot_dict_pop PySem.F.type_dict_pop (iH `cw' fun u s1 ⟨x,H1,I1,rx,a,ex,d,q1⟩=>?_);show 85;obtain⟨t1,t2,_⟩:=PJ I1 d;refine#[t1,t2,?_];rw[m.trees];refine jU rfl (kP (iR (iH (he pins s1 σ H1 _ I1 q1) fun iv s2 ⟨y,H2,I2,ry,kvs,k,v,ea,ey,l,q2⟩=>kD ?_)));subst ey;exact Z3 I2 ea ry l `a8' fun w' s3 I3 GJ=>#[v,_,I3,GJ,q2]
end
def AN:bootBuiltins "reversed"=some (.type "reversed"):=by decide+kernel
section
variable {X:Cx} {pins:List (ak×Obj)} {σ:St} {H:Hp} {s:aS} {h':cZ}
def cB.turnedL {ch:List ak} (I:cB X pins σ H s) (k:∀b o,b∉ch->s.heap.get? b=some o->h'.get? b=some o) (hf:∀b∈ch,vJ X pins H b):cB X pins σ H {s with heap:=h',toks:=t'}:=by
 have Td:∀b u,H b=some u->b∉ch:=fun b u e z=>by
  have q:=(hf b z).1;rw[q] at e;cases e
 refine I.step `dM' `lS' `iz'
  (fun _ _ _ _ n=>n) `mb' (fun _ _ e=>e) (fun _ _ _ e=>e) `k4' `k5' `j7' I.bare
 ·show 156;exact `hE'
 ·show 171
  ·rw[z];exact Td b u e
  ·exact Td c _ z
def cB.turnedNew {ch:List ak} (I:cB X pins σ H s) (k:∀b o,b∉ch->s.heap.get? b=some o->h'.get? b=some o) (hf:∀b∈ch,vJ X pins H b) (hT:s.heap.objs.size<=T)
 (new:kW X.prog X.w (bO H T ob) h' T ob):cB X pins σ (bO H T ob) {s with heap:=h',toks:=t'}:=by
 have hn:=I.hok.fresh hT;have Td:∀b u,H b=some u->b∉ch:=fun b u e z=>by
  have q:=(hf b z).1;rw[q] at e;cases e
 refine I.step `dM' `lS' `iz'
  (fun b o _ e n=>?_) `mb' (fun b xs e=>?_) (fun b o u e=>?_) (fun b ps e=>#[#[],?_]) `k5' `j7' I.bare
 ·rw[aZ (cF (bD (a8 e) hT))];exact n
 ·rw[aZ (a9 e hn)];exact e
 ·rw[aZ (a9 e hn)];exact e
 ·rw[aZ (a9 e hn),e];simp
 ·show 156;exact `hE'
 ·by_cases hb:b=T
  ·subst hb;show 167;exact new
  ·rw[aZ hb] at e;refine(I.hok b u e).stay `hs' `jP' fun c xs q=>by rw[aZ (a9 q hn)];exact q
   rcases hc with z|z
   ·rw[z];exact Td b u e
   ·exact Td c _ z
end
section
variable {X:Cx}
def NW (I:cB X pins σ H s) (o:Obj)
 (T:Ef X.prog X.w X.K tg J [s.heap.objs.size] s.heap.objs.size tn) (st:tn 0 (s.heap.push o)) (q:R J H):PIE X pins σ tg R `ai' {s with heap:=s.heap.push o,toks:=tk}:=by
 refine#[s.heap.objs.size,[s.heap.objs.size],tn,J,H,rfl,I.kept fun b ob e=>ap _ e,T,st,fun b hb=>?_,q];have e:b=s.heap.objs.size:=by simpa using hb
 subst e;exact I.fpOk (ax _) `cj'
end
def Z9 (lo c:Int) (n:Nat):It:=#[fun i _=>i<n,fun i H x H'=>H'=H/\x= .int `ld',fun i _=>n<=i]
def EQ {K:ai} (it:ak) (lo c:Int) (n:Nat):Ef P w K tg (Z9 lo c n) [it] it (fun i h=>IsRangeIter h it `ld' ((n:Int) - (i:Nat)) c) where
 mem:=by simp
 obj:=fun i h st b hb=>by
  show 53
  subst e;exact#[_,st,fun v z=>nomatch z]
 keep:=fun i h h' st k=>k it `S' _ st
 item:=by
  show 2;show 5;have W:=Walks.range (prog:=X.prog) (w:=X.w) `bZ' it lo c n;show 30;exact#[_,rfl,Gm Bh rfl rfl `KK #[.int `ld',H,I1,`m1',`hI',Bh,fun b hb=>(hf b hb).1]]
 done:=by
  show 2;show 5;show 133
 self:=fun A i s Q E st h=>wpAny_pyIter_rangeiter st h
def RgC (i j c:Int) (n:Nat):Prop:=c≠0/\c.natAbs<1073741824/\small i j c=true/\rangeSize i j c=n
def RgC.neg (ha: -(2^62)<=i) (ha':i<2^62) (hb: -(2^62)<=j) (CV:j<2^62):RgC i j (-1) (i - j).toNat:=
 #[by decide,by decide,PySem.W.small_down ha ha' hb CV,PySem.W.rangeSize_downNat i j]
def ZW (ta:TA):TI:=fun σ H R=>ta σ H fun vs H1=>∃(i j c:Int) (n:Nat),vs=[.int i,.int j,.int c]/\RgC i j c n/\R (Z9 i c n) H1
section
variable {X:Cx} {tg:Expr}
def Mj (hg:Gl X "range") (hm:X.mg "range"=none) (ha:PA X [a,b,c] ta)
 (hs:starEach [a,b,c] X.env=(false,eval a X.env)::starEach [b,c] X.env:=by rfl) (sI:(backTo pos (starEach [b,c] X.env)).any (·.1)=false:=by rfl):
 PI X tg (.Call `ip' [a,b,c] [] pos) (ZW ta):=by
 intro pins s σ H R I h;refine Call_ (mT I hg hm boot_range (b7 `V' hs sI));obtain⟨i,j,k,n,e,⟨c0,c1,c2,c3⟩,q⟩:=q1;subst e;cases r1 with
 |cons r rr=>
  cases rr with
  |cons r' rr=>
   cases rr with
   |cons r'' rr=>
    cases rr;show 49;obtain⟨t',rfl⟩:=r';obtain⟨t'',rfl⟩:=r'';refine call_range_3 c0 ?_ (.inl (PyProof.noPylong_small c1));refine wpAny_pyIter_range `i8' c2 ?_;have I2:cB X pins σ H1 {s1 with heap:=s1.heap.push {cls:=.type "range",data:=.fields (List.toArray [.int i t,.int j t',.int k t''])}}:=I1.kept fun b o e=>ap _ e;refine NW I2 _ (EQ _ i k n) ?_ q;have e1:i+((0:Nat):Int)*k=i:=by simp
    have e2:(n:Int) - ((0:Nat):Int)=rangeSize i j k:=by rw[c3];simp
    rw[e1,e2];exact a7 _ rfl
end
def Ih {lo c:Int} {g:TG} {tb:TS} {D:Dt} (Pv:Nat->St->Hp->Prop) (h0:Pv 0 σ H)
 (hs:∀i σ H,i<n->Pv i σ H->g (.int `ld') σ H fun σ2 H2=>tb {D with nx:=Pv (i+1),ct:=Pv (i+1),bk:=D.nx} σ2 H2) (hd:∀σ H,Pv n σ H->D.nx σ H):
 ∃W:Nat->Nat->St->Hp->Prop,(∃m,W 0 m σ H)/\∀i m σ H,W i m σ H->
  ((Z9 lo c n).stop i H/\D.nx σ H)\/((Z9 lo c n).go i H/\∃N:St->Hp->Prop,(∀σ' H',N σ' H'->∃m',m'<m/\W (i+1) m' σ' H')/\∀x H',(Z9 lo c n).yld i H x H'->g x σ H' fun σ2 H2=>tb {D with nx:=N,ct:=N,bk:=D.nx} σ2 H2):=by
 refine `fg';show 95;by_cases jB:i<n
 ·show 69
 ·have e:i=n:=by omega
  subst e;exact .inl `ml'
def Itv (K:ai) (a:ak) (n:Nat):It:=
 #[fun i H=>i<n/\∃(xs:List V) (x:V),SqL K H a xs/\xs[n - 1 - i]? =some x,fun i H x H'=>H'=H/\∀xs,SqL K H a xs->xs[n - 1 - i]? =some x,fun i _=>n<=i]
def PN {K:ai} (a it:ak) (n:Nat):Ef P w K tg (Itv K a n) [it] it (fun i h=>i<=n/\h.IsRevIter it a ((n:Int) - 1 - (i:Nat))) where
 mem:=by simp
 obj:=fun i h st b hb=>by
  show 53
  subst e;obtain⟨_,o,e,c,d⟩:=st;exact `eJ'
 keep:=fun i h h' st k=>#[st.1,st.2.at fun o e=>k it `S' o e]
 item:=by
  show 2;obtain⟨GM,xs,x,hq,hx⟩:=hg;show 51;show 5;obtain⟨_,qf⟩:=st;have e1:(n:Int) - 1 - ((i:Nat):Int)=((n - 1 - i:Nat):Int):=by omega
  rw[e1] at qf;refine wpAny_pyNext_rev_item qf p.isList `fm' fun h' Bh sb=>?_;have e2:((n - 1 - i:Nat):Int) - 1=(n:Int) - 1 - ((i+1:Nat):Int):=by omega
  rw[e2] at Bh;show 32;exact#[u,rfl,Gm e c d `KK #[x,H,I1,ru,`gZ',#[GM,Bh],fun b hb=>(hf b hb).1]]
 done:=by
  show 2;show 5;obtain⟨GM,qf⟩:=st;have Wu:n<=i:=hg;have e1:(n:Int) - 1 - ((i:Nat):Int)= -1:=by omega
  rw[e1] at qf;exact wpAny_pyNext_rev_end `bZ' qf fun h' eb=>`aD'
 self:=fun A i s Q E st h=>wpAny_pyIter_revIter st.2 h
def acd (K:ai) (ta:TA):TI:=fun σ H R=>ta σ H fun vs H1=>∃(a:ak) (xs:List V),vs=`eH'/\SqL K H1 a xs/\R (Itv K a xs.length) H1
section
variable {X:Cx} {tg:Expr}
def xu {p pos:Pos} (hg:Gl X "reversed") (hm:X.mg "reversed"=none) (ha:PA X [e] ta) (hs:starEach [e] X.env=`el':=by rfl):PI X tg (.Call (.Name "reversed" p) [e] [] pos) (acd X.K ta):=by
 intro pins s σ H R I h;refine Call_ (mT I hg hm AN (b7 `V' hs rfl));obtain⟨a,xs,e,hq,q⟩:=q1;subst e;cases r1 with
 |cons r rr=>
  show 232;have hl:=rv.length;have e1:((its.toArray.size:Nat):Int) - 1=(xs.length:Int) - 1 - ((0:Nat):Int):=by simp only[bn];omega
  refine call_reversed_list p'.isList (wpAny_pyIter_revIter `eB' ?_);refine NW I1 _ (PN a _ xs.length) #[aN _,?_] q;rw[<-e1];exact `eB'
end
section
variable {prog:bN} {w:cV} {A:dY} {E:aA->aS->Prop} {s:aS}
def Mh (hd:`hq'=false) (ho:s.heap.get? d=some o) (hc:o.ExactDict) (ui:o.data= .dict es ep)
 (hQ:Q `ai' {s with heap:=s.heap.push {cls:=.type "dict_keyiterator",data:=.fields (List.toArray [.ref d,.int 0 0,.int es.size 0,.int ep 0])}}):
 wpAny `C' A (pyIter (.ref d)) Q E s:=by
 have hT:s.TypeIs (.ref d) "dict":=#[o,ho,hc.1]
 refine wpAny_pyIter_slot hT F.slot_dict_iter (eT F.slot_dict_iter hT F.entry_dict_iter ?_ (F.args_dict_iter_1 _));refine ah ?_;refine ah (wpAny_notOrdered_dict hT ?_);refine aJ ?_;show wpAny _ _ (showsAll d >>= _) _ _ s;unfold showsAll;rw[au (by rw[hd];exact c8)];refine ah `cS';refine ah (kj ho ui ?_);refine ah (wpAny_dictEpoch ho ui ?_);refine ah (eE (aJ #[_,rfl,"dict_keyiterator",_,`mj',gc.lookup,?_]))
 simpa[rawInt] using hQ
def BA (qf:s.heap.IsKeyIter it d i n ep) (MN:s.heap.get? d=some od) (XC:od.data= .dict es ep)
 (hsz:es.size=n) (hx:es[i]? =some en) (hQ:∀h',h'.IsKeyIter it d (i+1) n ep->Heap.SameBut it s.heap h'->Q (some en.key) {s with heap:=h'}):wpAny `C' A (pyNext `ea') Q E s:=by
 obtain⟨o,ho,hc,hd⟩:=id qf;refine ah (lJ (cX qf.typeIs gc
  (eT gc qf.typeIs F.entry_dict_keyiterator_next ?_ `kS')))
 refine ah `cS';refine ah ?_;refine ah ?_
 first|refine ah (g8 qf.typeIs `cS')|refine ah (jq qf.typeIs `cS')
 show 108
 show 16;rw[au `S'];refine aJ ?_;obtain⟨aaL,NL⟩:=Array.getElem?_eq_some_iff.mp hx;simp only[show ¬((i:Int)<0) from by omega,pC,bL,Array.getElem?_eq_getElem aaL];refine ah ?_
 first|refine ah (g8 qf.typeIs `cS')|refine ah (jq qf.typeIs `cS')
 refine ah (wpAny_isOneOf_keyiter qf.typeIs ?_);show wpAny _ _ (setField `ea' 1 (rawInt ((i:Int)+1)) >>= _) _ _ s;refine ah (pB ho hd `S' ?_);have Ep:(s.heap.update it (Obj.mapFields (·.setIfInBounds 1 (rawInt ((i:Int)+1))))).IsKeyIter it d (i+1) n ep:=
  #[_,dv _ ho `lw',(Obj.cls_mapFields ..).trans hc,by rw[l0 hd];simp[rawInt]]
 refine ah (eS ?_);refine ah (wpAny_isOneOf_keyiter Ep.typeIs ?_);rw[NL];exact aJ (aJ #[_,rfl,aJ (hQ _ Ep (gG ..))])
def DB (hh:A.handled=none) (qf:s.heap.IsKeyIter it d i n ep) (MN:s.heap.get? d=some od) (XC:od.data= .dict es ep)
 (hsz:es.size=n) (Wu:n<=i) (hQ:∀h',ExtBut it s.heap h'->Q none {s with heap:=h'}):wpAny `C' A (pyNext `ea') Q E s:=by
 obtain⟨o,ho,hc,hd⟩:=id qf;refine ah (lJ (cX qf.typeIs gc
  (eT gc qf.typeIs F.entry_dict_keyiterator_next ?_ `kS')))
 refine ah `cS';refine ah ?_;refine ah ?_
 first|refine ah (g8 qf.typeIs `cS')|refine ah (jq qf.typeIs `cS')
 show 108
 show 16;rw[au `S'];refine aJ ?_;have abV:es.size<=i:=by rw[hsz];exact Wu
 simp only[show ¬((i:Int)<0) from by omega,pC,bL,Array.getElem?_eq_none abV];refine ah ?_
 first|refine ah (g8 qf.typeIs `cS')|refine ah (jq qf.typeIs `cS')
 show wpAny _ _ (setField `ea' 0 .none >>= _) _ _ s;refine ah (pB ho hd `S' ?_);refine ah ?_;refine ah (eE ?_ `kX');refine ah (wpAny_of_eq `hG' ?_);refine eE ?_ `kX';refine ah (wpAny_handled ?_);rw[show A.in1.handled=none from hh];refine ah (aJ (wpAny_throw ?_));refine ah (wpAny_isInstance `mj' isSubtype_stop ?_);exact aJ (hQ _ `lF')
end
def VP {κ:Type} {kvs:List (κ×V)} {vs:List (κ×aA)} (h:KV kvs vs):∀{i:Nat} {k:κ} {v:V},kvs[i]? =some (k,v)->∃u,vs[i]? =some (k,u)/\ff v u:=by
 induction h with
 |nil=>intro i k v e;simp at e
 | @cons a b l₁ l₂ r t ih=>
  intro i k v e;cases i with
  |zero=>
   simp only[List.getElem?_cons_zero,Option.some.injEq] at e;subst e;refine#[b.2,?_,r.2];exact dH some (Prod.ext r.1.symm rfl)
  |succ j=>
   exact ih e
def Qp (h:Ae k u=true):ff (kV k) u:=by
 rcases iI h with⟨i,t,rfl,rfl⟩| ⟨x,t,rfl,rfl⟩
 ·exact `m1'
 ·exact `m1'
def VM (K:ai) (a:ak):It:=
 #[fun i H=>∃(xs:List V) (x:V),SqL K H a xs/\xs[i]? =some x,fun i H v H'=>∃T x,v= .ref T/\H T=none/\H'=bO H T `aj'/\∀xs,SqL K H a xs->xs[i]? =some x,fun i H=>∃xs:List V,SqL K H a xs/\xs.length<=i]
def Lp {K:ai} (a e it:ak):
 Ef P w K `iq' (VM K a) [e,it] e (fun i h=>(∃rq,IsEnum h e it ((i:Nat):Int) rq)/\h.IsListIter it a i/\e≠it) where
 mem:=by simp
 obj:=fun i h st b hb=>by
  obtain⟨⟨rq,he⟩,⟨o,ho,hc,hd⟩,_⟩:=st;show 101
  show 187
  ·rw[z];exact#[_,he,fun v q=>nomatch q]
  ·rw[z];exact `jv'
 keep:=fun i h h' st k=>let⟨⟨rq,he⟩,hi,lH⟩:=st;#[#[rq,k e `S' _ he],hi.at fun o q=>k it `S' o q,lH]
 item:=by
  show 2;show 115;show 180;show 51;have Q7:=a8 he;show 176
  refine wpAny_pyNext_enum_item he qf p.isList `fm' lH fun h' ho Ep hT hsz hk=>?_;refine#[_,rfl,wpAny_letOwnedTupleGo_enum (s:={s with heap:=h',toks:=s.toks+1}) ho fun Wx W3 sb=>?_];have sF:=(sb.2 _ (gS Q7)).trans hT;have new:kW X.prog X.w (bO H s.heap.objs.size `aj') Wx s.heap.objs.size `aj':=
   #[by show 2<=sizeLine;decide,[.int i s.toks,u],.cons `dQ' (.cons ru .nil),#[_,sF,rfl,_,rfl]]
  have I1:cB X pins σ (bO H s.heap.objs.size `aj') {s with heap:=Wx,toks:=s.toks+1}:=
   I.turnedNew `ch' hf (ax _) new
  refine#[.ref s.heap.objs.size,_,I1,rfl,#[_,x,rfl,I.hok.fresh (ax _),rfl,fun ys hy=>by rw[I.list_inj hy hq];exact hx],#[#[u,?_],Ep.at fun o q=>(sb.2 it (je lH)).trans q,lH],fun b hb=>?_]
  ·have e1:((i+1:Nat):Int)=(i:Int)+1:=by omega
   rw[e1];exact W3
  ·have CV:b<s.heap.objs.size:=by
    show 101
    show 187
    ·rw[z];exact Q7
    ·rw[z];exact Xy
   rw[aZ (cF CV)];exact(hf b hb).1
 done:=by
  show 2;show 115;show 199;show 5;have hl:=rv.length;exact wpAny_pyNext_enum_end `bZ' he qf p.isList `hp' fun h' eb=>#[rfl,I.turned `nL' f0 f1 f3 f4 f5]
 self:=fun A i s Q E st h=>let⟨⟨_,he⟩,_⟩:=st;mz he h
def aak (K:ai) (ta:TA):TI:=fun σ H R=>ta σ H fun vs H1=>∃a xs,vs=`eH'/\SqL K H1 a xs/\R (VM K a) H1
def vj (hg:Gl X "enumerate") (hm:X.mg "enumerate"=none) (ha:PA X [e] ta) (hs:starEach [e] X.env=`el':=by rfl):
 PI X `iq' `iZ' (aak X.K ta):=by
 show 59;cases r1 with
 |cons r rr=>
  show 232;refine call_enumerate_list p'.isList fun h' he qf hsz hk=>mz he ?_;show 196;refine#[s1.heap.objs.size+1,`jF',_,_,H1,rfl,I2,Lp a (s1.heap.objs.size+1) s1.heap.objs.size,`kd',fun b hb=>?_,q];show 158
  have Ew:s1.heap.objs.size<=b:=by
   show 187
   ·show 188
   ·rw[z];exact ax _
  exact I1.fpOk Ew `mt'
def Mo:bootBuiltins "zip"=some (.type "zip"):=by decide+kernel
end L2
section
namespace Bits
open PySem PyProof.Rows
def bitOr_pp (hx:0<=x) (hy:0<=y):Builtin.bitOr x y=((x.toNat|||y.toNat:Nat):Int):=by
 have e:=nat_or_add_and x.toNat y.toNat;rw[bitOr_and,bitAnd_pp hx hy];omega
end Bits
end
namespace L2
open PySem PySem.Spec PyProof.Rows
def oW (s:du) (j:Nat):du:=match s with
 | .ClassDef _ _ _ body _ _ _ _ _ _ _=>body.getD j (.Pass `iW')
 |_=>.Pass `iW'
def ue (s:du):Arguments:=match s with
 | .FunctionDef _ a _ _ _ _ _ _ _ _=>a
 |_=>{posonlyargs:=[],args:=[],vararg:=none,kwonlyargs:=[],kw_defaults:=[],kwarg:=none,defaults:=[]}
def oZ (s:du):List du:=match s with
 | .FunctionDef _ _ b _ _ _ _ _ _ _=>b
 |_=>[]
def aw (s:du):ju:=match s with
 | .FunctionDef _ _ _ _ _ _ sc _ _ _=>sc
 |_=>{kind:=.function,names:=[],isGenerator:=false,isCoroutine:=false}
abbrev dj:yx:=fun _ _ _ _ _ _=>False
abbrev E0:XK:=fun _ _ _=>False
def b9:pR dj X E0:=fun _ _ _ _ _ _ _ h=>h.elim
structure nv (K:ai) (x qual:Str) (st:du) (f:ak) (fd:aH):Prop where
 ex:∃(oc:aA) (od:Option ak) (kV doc pm:aA) (an:Option ak) (cdv ct:aA) (osl:Array (Option aA)),
  fd=PySem.W.fnOf x qual (ue st) (oZ st) `l3' .none kV doc pm an cdv ct/\K.lookup f=some #[oc,od,.func fd,osl]/\PySem.W.codeIn K cdv qual=true
 kp:keepIn K `bA'=true
section
variable {P:bN} {w:cV} {K:ai} {mg:Str->Option aA} {base:cZ}
def nv.ok {st:du} (F:nv K x qual st f fd) (S:bY N ps `l3') (len:∀vs H Q E,sp vs H Q E->vs.length=ps.length)
 (u9:∀(cdv:aA) (A:dY) (outer:List Env) (s:aS) (H:Hp) (vs:List V) (Q:VK) (E:XK),Room k (A.deeper (envOfC qual `l3' s.heap.objs.size f cdv))->sp vs H Q E->
  ∃t,Hl (Gv dj P w K mg base N qual `l3' f cdv A outer s H E).nox (oZ st) t/\t {nx:=fun _ H'=>Q .non H',rt:=Q} `ii' H):bT P w K mg base dj (k+1) f fd ps sp:=by
 show 207;show 230;obtain⟨t,h,q⟩:=u9 cdv A outer s H vs Q E hr BE;exact#[t,h.nox,q]
def nv.binds {st:du} (F:nv K x qual st f fd)
 (h:∀(kV doc pm:aA) (an:Option ak) (cdv ct:aA) (us:List aA),us.length=ps.length->bindArgs `eI' `hZ'=pure `fc'):fV K fd ps []:=by
 show 207;exact .all (h kV doc pm an cdv ct)
end
def ux (hr:Room k A):A.units+1<cLine:=bG (Nat.add_le_add_left (by decide:1<=64) _) hr.units
def cO (h:n<=1000):n<sizeLine:=bG h `KK
section
variable {X:Cx}
def pv (i:Nat) (hN:X.N[i]? =some x:=by rfl) (hv:Uc X.env.scope x:=by first|exact Or.inl rfl|exact Or.inr `Cl|exact Or.inr `b0') (hd:`az'=false:=by decide)
 (xr:`dy'=false:=by decide):PE X `hb' (oX i):=Ho hN hv hd xr
def K6:rf X `gL' (fun xs H Q=>∃a kvs,xs=`lr'/\H a=some `da'/\Q `is' H):=by
 show 20;obtain⟨a,kvs,rfl,ha,q⟩:=h;obtain⟨u,rfl,ru⟩:=yX r;cases ru;exact aab I (.inl ha) fun t s' I'=>#[.int kvs.length,H,I',`m1',q]
end
def aM (H H':Hp):Prop:=∀b o,H b=some o->H' b=some o
def aM.refl (H:Hp):aM H H:=fun _ _ h=>h
def aM.trans (a:aM H H1) (b:aM H1 H2):aM H H2:=fun c o h=>b c o (a c o h)
def aM.free (e:aM H H') (h:H' l=Option.none):H l=Option.none:=by
 cases q:H l with
 |none=>rfl
 |some o=>
  rw[e l o q] at h;cases h
section
variable {κ:Type} [DecidableEq κ]
def Mx {k:κ} (e:p.1=k):lA (p::r) k=lA r k:=by
 unfold lA;rw[le,au (by simp[e])]
def Lc {k:κ} (e:¬p.1=k):lA (p::r) k=p::lA r k:=by
 unfold lA;rw[le,aD (by simp[e])]
end
def ZJ {α:Type} {l:List α} (hN:l.Nodup) {i j:Nat} {x:α} (a:l[i]? =some x) (b:l[j]? =some x):i=j:=by
 show 111
structure eR (N P F:List Str) (sc:ju):Prop where
 kind:sc.kind= .function
 co:sc.isCoroutine=false
 gen:sc.isGenerator=false
 nd:N.Nodup
 pre:N.take (P.length+F.length)=P++F
 par:∀x∈P,sc.names.lookup x=some .local\/sc.names.lookup x=some .cell
 free:∀x∈F,sc.names.lookup x=some .free
 uniq:∀y∈sc.names,sc.names.lookup y.1=some y.2
 all:∀y∈sc.names,y.2= .free->y.1∈F
structure PY (base:cZ) (cl:List `fV') (F:List Str) (fvs:List V):Prop where
 inj:∀x y c,(x,c)∈cl->(y,c)∈cl->x=y
 mem:∀x c,(x,c)∈cl->x∈F/\∃v,base.IsCell c v
 look:∀(j:Nat) (x:Str) (v:V),F[j]? =some x->fvs[j]? =some v->∃c u,cl.lookup x=some c/\base.IsCell c (some u)/\ff v u
 len:fvs.length=F.length
def uM (CX:yx) (P:bN) (w:cV) (K:ai) (mg:Str->Option aA) (base:cZ) (N:List Str) (qual:Str) (scope:ju) (f:ak) (cd:aA) (cl:List `fV') (A:dY) (outer:List Env) (s:aS) (H:Hp) (E:XK):Cx where
 prog:=P
 w:=w
 K:=K
 mg:=mg
 base:=base
 A:=A.deeper (envX qual scope s.heap.objs.size f cd (cellsFrom `i' scope.names cl))
 N:=N
 s_0:=s
 H_0:=H
 env:=envX qual scope s.heap.objs.size f cd (cellsFrom `i' scope.names cl)
 outer:=outer
 stack:=envX qual scope s.heap.objs.size f cd (cellsFrom `i' scope.names cl)::outer
 ex:=[]
 calm:=true
 fn:=fun x=> !(scope.names.lookup x==some .free)
 pn:=[]
 xe:=fun e s'=>wpAny `gG' (A.deeper (envX qual scope s.heap.objs.size f cd (cellsFrom `i' scope.names cl))) (leaving (envX qual scope s.heap.objs.size f cd (cellsFrom `i' scope.names cl)) e) `ma' `lA' s'
def Hn (σ:St):Nat->List V->St
 |_,[]=>σ
 |k,v::vs=>Hn (σ.set k `eG') (k+1) vs
def Di:∀(vs:List V) (l r:St),Hn (l++replicate vs.length none++r) l.length vs=l++vs.map some++r
 | [],l,r=>by simp[Hn]
 |v::vs,l,r=>by
  have e:(l++replicate (v::vs).length none++r).set l.length `eG'=(l++[some v])++replicate vs.length none++r:=by
   rw[aF,dD,cI,List.set_append_right _ _ (ax _),lc];simp
  show Hn ((l++replicate (v::vs).length none++r).set l.length `eG') `fR' vs=_;rw[e];have:=Di vs (l++[some v]) r;rw[aE,cz] at this;rw[this];simp
def Ap {X:Cx} {M:Model} {A:dY} {E:aA->aS->Prop} {pins:List `cQ'} {H:Hp} (hN:X.N.Nodup) (f:Str×aA->PUnit->Sem (ForInStep PUnit)) (hf:∀n v u,f (n,v) u=(do storeName X.env n v;pure (.yield ⟨⟩))):
 ∀(P:List Str) (us:List aA) (vs:List V) (k:Nat) (σ:St) (s:aS) (Q:PUnit->aS->Prop),cB X pins σ H s->dy vs us->P.length=vs.length->(∀(j:Nat) (x:Str),P[j]? =some x->X.N[k+j]? =some x)->
  (∀x∈P,VU X.env.scope x/\X.fn x=true)->(∀s',cB X pins (Hn σ k vs) H s'->Q ⟨⟩ s')->wpAny M A (forIn (P.zip us) ⟨⟩ f) Q E s
 | [],_,_,k,σ,s,Q,I,r,hl,_,_,h=>by
  cases r with
  |nil=>exact aJ (h s I)
  |cons _ _=>cases hl
 |x::P,us,vs,k,σ,s,Q,I,r,hl,hi,hp,h=>by
  cases r with
  |nil=>cases hl
  | @cons v u vs us r1 r2=>
   rw[pE,List.forIn_cons,hf];refine ah (ah (tz I hN (by have:=hi 0 x rfl;rw[Nat.add_zero] at this;exact this) (hp x `dG').1 r1 (fun s' I'=>?_) (.inl (hp x `dG').2)));refine aJ ?_;exact Ap hN f hf P us vs (k+1) _ s' Q I' r2 (by simpa using hl) (fun j y hy=>by
    have:=hi (j+1) y hy;rw[show k+1+j=k+(j+1) by omega];exact this) (fun y hy=>hp y `hg') h
def xE {M:Model} {A:dY} {E:aA->aS->Prop} {s:aS} {scope:ju} {globals:ak} {rA:List `fV'} {binds:List (Str×aA)} {qual:Str} {func:Option ak} {code:aA} {builtins:ak} {Q:Env->aS->Prop}
 (h:wpAny M A (forIn binds (⟨⟩:PUnit) fun(x:Str×aA) (_:PUnit)=>(do storeName (newEnv scope s.heap.objs.size globals (cellsFrom `i' scope.names rA) qual func code none builtins) x.1 x.2;pure (.yield ⟨⟩):Sem (ForInStep PUnit)))
  (fun _ s'=>Q (newEnv scope s.heap.objs.size globals (cellsFrom `i' scope.names rA) qual func code none builtins) s') E {s with heap:=pushCells `aB' scope.names}):
 wpAny M A (newFunctionEnv scope globals rA binds qual func code none builtins) Q E s:=by
 simp only[newFunctionEnv,Option.isSome_none,l7,pC];refine ah (wpAny_alloc ?_);refine ah (wpAny_layCells _ (fun n k c=>by cases hkc:k==NameKind.cell<;>simp[hkc]) scope.names rA _ _ ?_);rw[show({s with heap:=s.heap.push {cls:=.type "frame",data:=.dict #[]}}:aS).heap.objs.size=s.heap.objs.size+1 from b8 ..];exact ah (fH h (fun _ _ q=>aJ q) fun _ _ q=>q)
def AG {CX:yx} {P:bN} {w:cV} {K:ai} {mg:Str->Option aA} {base:cZ} {N ps F:List Str} {qual:Str} {scope:ju} {f:ak} {cd:aA} {cl:List `fV'} {A:dY} {outer:List Env} {s:aS} {H:Hp} {E:XK} {fvs:List V}
 (S:eR N ps F scope) (hd:A.handled=none) (e0:Bv P w K mg base A outer s H) (hc:PY base cl F fvs):
 cB (uM CX P w K mg base N qual scope f cd cl A outer s H E) [] (replicate ps.length none++`Z') H {s with heap:=pushCells `aB' scope.names}:=by
 have sI:ps.length+F.length<=N.length:=by
  have:=dH List.length S.pre;rw[be,aE] at this;omega
 have kp:∀b o,s.heap.get? b=some o->(pushCells `aB' scope.names).get? b=some o:=fun b o e=>j0 _ _ _ _ (ap _ e);have UO:∀b:ak,b∉(uM CX P w K mg base N qual scope f cd cl A outer s H E).ex:=fun b z=>absurd `gj' `S';have oi:cellsFrom `i' scope.names cl=cellsFrom (s.heap.push {cls:=.type "frame",data:=.dict #[]}).objs.size scope.names cl:=by rw[b8]
 have rq:∀{y:Str} {c:ak},(y,c)∈cl->c<s.heap.objs.size/\H c=none/\∃v,s.heap.IsCell c v:=fun{y c} hm=>by
  obtain⟨_,v,o,ho,wn⟩:=hc.mem y c hm;have:=e0.bs c o ho;exact#[a8 this.1,this.2,v,o,this.1,wn]
 have mem:∀{y:Str} {c:ak},(cellsFrom `i' scope.names cl).lookup y=some c->(y,c)∈cl\/((y,NameKind.cell)∈scope.names/\s.heap.objs.size+1<=c/\GY (pushCells `aB' scope.names) c none):=fun{y c} e=>by
  rw[oi] at e;rcases pj (bJ e) with hm| ⟨h1,h2,h3⟩
  ·exact .inl hm
  ·rw[b8] at h2;exact .inr `ju'
 have look:∀{y:Str} {c:ak},scope.names.lookup y=some .free->cl.lookup y=some c->(cellsFrom `i' scope.names cl).lookup y=some c:=fun{y c} hl e=>by
  obtain⟨c',e'⟩:=nD (qU (names:=scope.names) (n:=s.heap.objs.size+1) (bJ e));have Xs:∀(cR:List (Str×ak)) (names:List (Str×NameKind)) (n:Nat),(∀q∈names,q.2= .cell->q.1≠y)->(cellsFrom n names cR).lookup y=cR.lookup y:=by
   intro cR names
   induction names generalizing cR with
   |nil=>intro n _;rfl
   |cons q r ih=>
    intro n hq;obtain⟨m,k⟩:=q;unfold cellsFrom
    split
    ·rename_i hk;rw[ih _ _ fun q sw=>hq q (aK _ sw),cy];have:(y==m)=false:=by
      have:=hq (m,k) `dG' (by simpa using hk)
      simpa using fun z=>this z.symm
     rw[this]
    ·exact ih _ _ fun q sw=>hq q (aK _ sw)
  rw[Xs cl scope.names _ fun q hq hk z=>by
   have:=S.uniq q hq;rw[z,hl,hk] at this;cases this]
  exact e
 refine⟨⟨e0.mod,S.kind,rfl,rfl,ax _,fun y z c h1 h2=>?_,fun y hy=>?_,fun y c z h=>?_,fun _=>hd,Around.frames_deeper e0.frames,.inr ⟨rfl,rfl⟩,fun b z=>absurd z (UO b),e0.bs,e0.bsz,fun b _ _=>UO b,fun b z=>absurd z (UO b),e0.funs,e0.frf⟩,
  rfl,e0.bare,Un.kept kp,#[fun _=>none,?_,fun i y v h1 h2 h3=>?_],fun y c h=>?_,e0.hok.fresh (ax _),fun y c h=>?_,fun p hp=>absurd (show p∈([]:List `cQ') from hp) `S',e0.hok.kept kp,?_⟩
 ·have h1:(cellsFrom `i' scope.names cl).lookup y=some c:=h1;have h2:(cellsFrom `i' scope.names cl).lookup z=some c:=h2;rw[oi] at h1 h2;refine ug (fun p hp=>?_) (fun y z c a b=>hc.inj y z c a b) (bJ h1) (bJ h2);rw[b8];exact kn (rq hp).1
 ·show ∃c,(cellsFrom `i' scope.names cl).lookup y=some c;have hy:=hy;rcases hy with hy|hy
  ·obtain⟨c,hm⟩:=tX (bJ hy);exact nD hm
  ·have hF:=S.all _ (bJ hy) rfl;obtain⟨j,hj,ej⟩:=cg.mp hF;have KU:j<fvs.length:=by rw[hc.len];exact hj
   obtain⟨c,u,e1,_,_⟩:=hc.look j y fvs[j] `l4' (ao KU);exact#[c,look hy e1]
 ·have z:(!(scope.names.lookup y==some NameKind.free))=true:=z;have h:=h;rcases mem h with hm| ⟨_,h2,_⟩
  ·have:=S.free y (hc.mem y c hm).1;rw[this] at z;exact absurd z `KK
  ·exact jf h2
 ·show Heap.Ns _ s.heap.objs.size _;show 194
 ·have hi1:ps.length<=i:=by
   show 124;rw[cq (by rw[bo];omega),gh] at h2
   split at h2<;>cases h2
  rw[df (by rw[bo];omega),bo] at h2;have hi2:i - ps.length<fvs.length:=by
   show 124;rw[df `iw',gh] at h2
   split at h2<;>cases h2
  rw[cq (by rw[ae];exact hi2),aR] at h2;have ev:fvs[i - ps.length]? =some v:=by
   cases e:fvs[i - ps.length]? with
   |none=>rw[e] at h2;cases h2
   |some a=>rw[e] at h2;cases h2;rfl
  have ey:F[i - ps.length]? =some y:=by
   have fY:=hc.len;have h4:`gy'[i]? =some y:=by
    rw[eX `mt];exact h1
   rw[S.pre,df hi1] at h4;exact h4
  obtain⟨c,u,e1,e2,r⟩:=hc.look _ y v ey ev;have kI:=S.free y (aQ ey);refine#[u,r,.inr #[.inr kI,c,look kI e1,?_]];obtain⟨o,ho,wn⟩:=e2;exact#[o,kp c o (e0.bs c o ho).1,wn]
 ·have h:=h;rcases mem h with hm| ⟨_,_,h3⟩
  ·obtain⟨_,_,v,z⟩:=rq hm;exact#[v,z.keeps kp]
  ·exact#[_,h3]
 ·have h:=h;rcases mem h with hm| ⟨_,h2,_⟩
  ·exact(rq hm).2.1
  ·exact e0.hok.fresh (jf h2)
 ·have:=hc.len;show _=N.length;rw[aE,aE,ae,bo,bo];omega
def FnAt (H:Hp) (f:ak) (fd:aH):Prop:=(∃fo u,H f=some `hL'/\fo.data= .func fd)/\∃c oc vs t uc,fd.code= .ref c/\H c=some (.frz oc uc)/\oc.data= .fields vs/\vs[1]? =some (.str fd.qualname t)
def g7 {CX:yx} {P:bN} {w:cV} {K:ai} {mg:Str->Option aA} {base:cZ} {k:Nat} {f:ak} {name qual:Str} {params:Arguments} {body:List du} {scope:ju} {cl:List `fV'} {dV kV doc pm cdv ct:aA} {an:Option ak}
 {N ps F:List Str} {fvs:List V} {sp:Sp} (S:eR N ps F scope) (hc:PY base cl F fvs) (len:∀vs H Q E,sp vs H Q E->vs.length=ps.length)
 (lI:∀vs H Q E,sp vs H Q E->FnAt H f `fX')
 (u9:∀(A:dY) (outer:List Env) (s:aS) (H:Hp) (vs:List V) (Q:VK) (E:XK),Room k (A.deeper (envX qual scope s.heap.objs.size f cdv (cellsFrom `i' scope.names cl)))->sp vs H Q E->
  ∃t,Hl `aF' body t/\t {nx:=fun _ H'=>Q .non H',rt:=Q} (start N (vs++fvs)) H):
 bT P w K mg base CX (k+1) f `fX' ps sp:=by
 show 185;have lim:=e0.mod.nolimit.keeps fun b o e=>(e0.bs b o e).1;show 46;refine codeAny_call_function hr.depth Ut hfd S.co S.gen rfl #[c,oc,vs',t,xr,hco,MZ,hq] (hb _ _ _ _ ?_);show 10
 ·rw[cE];have KU:=(bd.mp hj).1;have h4:`gy'[j]? =some x:=by
   rw[S.pre,cq KU];exact hj
  rw[eX `mt] at h4;exact h4
 ·show 206
 ·refine#[I1.nolimit,codeAny_func ?_];show 198;have e1:Hn (replicate ps.length none++`Z') 0 vs=start N (vs++fvs):=by
   show 97
  rw[e1] at I1;refine fH (ht [] s1 _ H _ I1 sw) (fun fl s' hs=>?_) fun e s' hs=>hs;have oH:∀{σ':St} {H':Hp} {v:V} {u:aA},cB `aF' [] σ' H' s'->ff v u->Q v H'->CE outer P w H s Q u s':=
   fun{σ' H' v u} J rv q=>`eK'
  cases fl with
  |ret u=>
   obtain⟨v,σ',H',J,rv,q⟩:=hs;exact oH J rv q
  |next=>
   obtain⟨σ',H',J,q⟩:=hs;exact oH (v:=V.non) J rfl q
  |brk=>
   show 220;exact False.elim q
  |cont=>
   show 220;exact False.elim q
def BD (pos:Pos):∀(l m:List aA),TriplesOk l->codeAmong pos (l++m)=(codeAmong pos l).or (codeAmong pos m):=by
 intro l m h
 fun_induction TriplesOk l with
 |case1=>rfl
 |case2 a t b u x rest ih=>
  show(if _ then some x else codeAmong pos (rest++m))=(if _ then some x else codeAmong pos rest).or _
  split
  ·rfl
  ·exact ih h
 |case3=>exact h.elim
def Bs:∀(l m:List aA),TriplesOk l->TriplesOk m->TriplesOk (l++m):=by
 intro l m h h'
 fun_induction TriplesOk l with
 |case1=>exact h'
 |case2 a t b u x rest ih=>exact ih h
 |case3=>exact h.elim
def xi (H:Hp) (c:ak) (qual:Str):Prop:=∃oc uc vs t,H c=some (.frz oc uc)/\oc.data= .fields vs/\vs[1]? =some (.str qual t)
def cw (H:Hp) (P:ak) (defs:List `ap'):Prop:=∃ps,H P=some `jx'/\TriplesOk ps.toList/\∀q∈defs,∀cv,codeAmong q.1 ps.toList=some cv->∃c,cv= .ref c/\xi H c q.2
def cn (P:ak) (H H':Hp):Prop:=∀b o,H b=some o->b≠P->H' b=some o
def xi.keep {P:ak} {H H':Hp} {c:ak} {qual:Str} {ps:Array aA} (x:xi H c qual) (hP:H P=some `jx') (k:cn P H H'):xi H' c qual:=by
 obtain⟨oc,uc,vs,t,e,r⟩:=x;exact#[oc,uc,vs,t,k c _ e (eD e hP `XL),r]
def Kb (K:ai) (c P:ak):Prop:=∀h:cZ,K.In h->PySem.W.CodeHd h c P
def Pn (K:ai) (mg:Str->Option aA):Prop:=∃bm ob,mg "__builtins__"=some (.ref bm)/\bm≠builtinsNs/\K.lookup bm=some ob/\ob.cls= .type "module"/\ob.dict=some builtinsNs/\ob.data= .plain
section
variable {X:Cx} {pins:List (ak×Obj)} {σ:St} {H:Hp} {s:aS}
abbrev uT:HO:=.ext fun _=>True
abbrev ur (fd:aH):Obj:={cls:=.type "function",data:=.func fd}
def Io {P:bN} {w:cV} {H:Hp} {h:cZ} {a:ak} {o:Obj} (e:h.get? a=some o):kW P w H h a (.frz o uT):=#[e,trivial,#[o,e],fun _ _ _ _=>trivial]
def cB.fnNew {h':cZ} {P c':ak} {ps t:Array aA} {oc:Obj} (fd:aH) {tk:Nat} (I:cB X pins σ H s) (hP:H P=some `jx') (hx:ExtBut P s.heap h') (hc:s.heap.objs.size<=c') (jB:c'<h'.objs.size) (QM:h'.get? c'=some oc)
 (Tc:h'.get? P=some (tabObj (ps++t))):
 cB X pins σ `bl' {s with heap:=h'.push (ur fd),toks:=tk}:=by
 have M0:=I.hok.fresh hc;have hsz:=aU hc (eo jB);have En:=I.hok.fresh hsz;have acJ:P<s.heap.objs.size:=I.hok.lt hP;have rq:∀b o,b≠P->s.heap.get? b=some o->(h'.push (ur fd)).get? b=some o:=fun b o hb e=>ap _ (hx b o hb e);have nP:∀b,H b=none->b≠P:=fun b n z=>by rw[z,hP] at n;cases n
 have NH:∀b u,H b=some u->b≠P->`bl' b=some u:=fun b u e hb=>by
  rw[aZ (a9 e En),aZ (a9 e M0),aZ hb];exact e
 have tab:`bl' P=some (.tbl (ps++t)):=by
  rw[aZ (a9 hP En),aZ (a9 hP M0),aq]
 refine I.step (ch:=[]) `bv' (fun b o _ _ _ e n=>rq b o (nP b n) e) (fun b o _ _ _ e n=>#[o.slots,rq b o (nP b n) e]) (fun b o _ e n=>?_) (fun b o _ e=>?_) (fun b xs e=>?_) (fun b o u e=>?_) (fun b qs e=>?_) `k5' `j7' I.bare
 ·have hb:=a8 e;rw[aZ (cF (bD hb hsz)),aZ (cF (bD hb hc)),aZ (nP b n)];exact n
 ·by_cases hb:b=P
  ·subst hb;exact#[_,ap _ Tc]
  ·exact#[o,rq b o hb e]
 ·exact NH b _ e (eD e hP `XL)
 ·exact NH b _ e (eD e hP `XL)
 ·by_cases hb:b=P
  ·subst hb;rw[hP] at e;cases e;exact#[t,tab]
  ·exact#[#[],by rw[NH b _ e hb];simp]
 ·show 156;exact#[o,es,ep,rq _ o (nP _ I.free) ho,r]
 ·by_cases h1:b=h'.objs.size
  ·subst h1;show 167;exact Io `f3'
  ·rw[aZ h1] at e;by_cases h2:b=c'
   ·subst h2;show 167;exact Io (ap _ QM)
   ·rw[aZ h2] at e;by_cases h3:b=P
    ·subst h3;show 167;exact ap _ Tc
    ·rw[aZ h3] at e;refine(I.hok b u e).stay (fun c v hc' q=>rq c v ?_ q) (fun c q=>NH c _ q (eD q hP `XL)) fun c xs q=>NH c _ q (eD q hP `XL);rcases hc' with z|z
     ·rw[z];exact h3
     ·exact eD z hP `XL
def mkF (X:Cx) (P:ak) (defs:List `ap') (mk:aH->Prop) (H:Hp) (k:ak->Hp->Prop):Prop:=
 cw H P defs/\∀f fd H',H f=none->cn P H H'->cw H' P defs->FnAt H' f fd->mk fd->k f H'
def NS {h':cZ} {P c':ak} {defs:List `ap'} {ps:Array aA} {oc:Obj} {tk:Nat} {pos:Pos} {qual:Str} {vs:Array aA} {tq:Tok} (fd:aH) {mk:aH->Prop} {k:ak->Hp->Prop} (I:cB X pins σ H s) (hP:H P=some `jx') (Jh:TriplesOk ps.toList)
 (hall:∀q∈defs,∀cv,codeAmong q.1 ps.toList=some cv->∃c,cv= .ref c/\xi H c q.2) (hq:∀q∈defs,q.1.line=pos.line->q.1.col=pos.col->q.2=qual)
 (hx:ExtBut P s.heap h') (hc:s.heap.objs.size<=c') (jB:c'<h'.objs.size) (QM:h'.get? c'=some oc) (MN:oc.data= .fields vs) (hv:vs[1]? =some (.str qual tq))
 (Tc:h'.get? P=some (tabObj `fA')) (xr:fd.code= .ref c') (hqn:fd.qualname=qual) (lW:mk fd) (h:mkF X P defs mk H k):
 ∃f H',f=h'.objs.size/\cB X pins σ H' {s with heap:=h'.push (ur fd),toks:=tk}/\k f H':=by
 have J:=I.fnNew fd (tk:=tk) hP hx hc jB QM Tc;have M0:H c'=none:=I.hok.fresh hc;have hsz:=aU hc (eo jB);have En:=I.hok.fresh hsz;have kb:cn P H `al':=fun b u e hb=>by
  rw[aZ (a9 e En),aZ (a9 e M0),aZ hb];exact e
 have tab:`al' P=some (.tbl `fA'):=by
  rw[aZ (a9 hP En),aZ (a9 hP M0),aq]
 have Ek:`al' c'=some (.frz oc uT):=by
  rw[aZ (cF jB),aq]
 have el:(ps++ (List.toArray [rawInt pos.line,rawInt pos.col,Value.ref c'])).toList=ps.toList++[rawInt pos.line,rawInt pos.col,.ref c']:=by simp
 refine#[_,_,rfl,J,h.2 _ fd _ En kb #[_,tab,?_,fun q Tl cv e=>?_] #[#[ur fd,uT,aq,rfl],c',oc,vs,tq,uT,xr,Ek,MN,by rw[hqn];exact hv] lW]
 ·rw[el];exact Bs _ _ Jh trivial
 ·rw[el,BD _ _ _ Jh] at e;cases e2:codeAmong q.1 ps.toList with
  |some cv'=>
   rw[e2] at e;cases e;obtain⟨c,rfl,z⟩:=hall q Tl _ e2;exact#[c,rfl,z.keep hP kb]
  |none=>
   rw[e2] at e;have e3:(if((pos.line:Int)==(q.1.line:Int)&&(pos.col:Int)==(q.1.col:Int))=true then some (Value.ref c') else none)=some cv:=e
   split at e3
   ·rename_i hh;cases e3;rw[aX,gv,gv] at hh;have:=hq q Tl (by have:=hh.1;omega) (by have:=hh.2;omega);rw[this];exact#[c',rfl,oc,uT,vs,tq,Ek,MN,hv]
   ·cases e3
def Op {h':cZ} {P:ak} {defs:List `ap'} {ps:Array aA} {tk:Nat} {pos:Pos} {qual:Str} {cv:aA} (fd:aH) {mk:aH->Prop} {k:ak->Hp->Prop} (I:cB X pins σ H s) (hP:H P=some `jx') (Jh:TriplesOk ps.toList)
 (hall:∀q∈defs,∀cv,codeAmong q.1 ps.toList=some cv->∃c,cv= .ref c/\xi H c q.2) (Tl:(pos,qual)∈defs) (hf:codeAmong pos ps.toList=some cv)
 (hk:∀b o,s.heap.get? b=some o->h'.get? b=some o) (hsz:s.heap.objs.size<=h'.objs.size) (xr:fd.code=cv) (hqn:fd.qualname=qual) (lW:mk fd) (h:mkF X P defs mk H k):
 ∃f H',f=h'.objs.size/\cB X pins σ H' {s with heap:=h'.push (ur fd),toks:=tk}/\k f H':=by
 have En:=I.hok.fresh hsz;have J:cB X pins σ `eN' {s with heap:=h'.push (ur fd),toks:=tk}:=I.laid (fun b u e=>ap _ (hk b u e)) hsz (Io `f3');have kp:∀b u,H b=some u->`eN' b=some u:=fun b u e=>by rw[aZ (a9 e En)];exact e
 have kb:cn P H `eN':=fun b u e _=>kp b u e;obtain⟨c,rfl,oc,uc,vs,t,z1,z2,z3⟩:=hall _ Tl _ hf;exact⟨_,_,rfl,J,h.2 _ fd _ En kb ⟨ps,kp _ _ hP,Jh,fun q hq cv e=>by
  obtain⟨c,rfl,z⟩:=hall q hq cv e;exact#[c,rfl,z.keep hP kb]⟩ #[#[ur fd,uT,aq,rfl],c,oc,vs,t,uc,xr,kp _ _ z1,z2,by rw[hqn];exact z3] lW⟩
def cB.bltAt (I:cB X pins σ H s) {P:ak} {ps:Array aA} (hP:H P=some `jx') (hB:Pn X.K X.mg):s.heap.BuiltinsAt X.mg P/\mainGlobals≠P:=by
 obtain⟨bm,ob,h1,h2,h3,h4,h5,h6⟩:=hB;have hb:=I.ok.mod.kin bm ob h3;have g:=I.ok.mod.glob;obtain⟨o,es,ep,e,hd,_⟩:=g;refine#[#[bm,ob,h1,h2,fun z=>?_,fun z=>?_,I.bk _ _ hb,h4,h5,h6],fun z=>?_]
 ·rw[z,e] at hb;cases hb;rw[hd] at h6;cases h6
 ·have:=(I.bs _ _ hb).2;rw[z,hP] at this;cases this
 ·have:=(I.bs _ _ e).2;rw[z,hP] at this;cases this
end
section
variable {X:Cx}
abbrev u4 (X:Cx) (scope:ju):List `fV':=gU X.env.cells scope.names []
def Fd {pins:List `cQ'} {σ:St} {H:Hp} {s:aS} {scope:ju} (I:cB X pins σ H s) (kI:∀y∈scope.names,y.2= .free->X.env.scope.names.lookup y.1=some .cell\/X.env.scope.names.lookup y.1=some .free):
 closureFor scope X.env=pure `kv':=Au fun y hy e=>I.ok.has y.1 (kI y hy e)
def acj (X:Cx) (P:ak) (defs:List `ap') (qual:Str) (params:Arguments) (body:Expr) (scope:ju):TE:=fun σ H Q=>
 mkF X P defs (fun fd=>∃pm cdv ct,fd=kla_fn "<lambda>" qual params body scope `kv' pm cdv ct) H fun f H'=>Q `bA' H'
def wV {c P:ak} {defs:List `ap'} {params:Arguments} {body:Expr} {scope:ju} {pos:Pos} {qual:Str} (Eo:X.env.code= .ref c) (hC:Kb X.K c P) (hB:Pn X.K X.mg) (Nk:X.env.qual++"<lambda>"=qual)
 (Tl:(pos,qual)∈defs) (hq:∀q∈defs,q.1.line=pos.line->q.1.col=pos.col->q.2=qual) (abR:defaultsOf params X.env=([],[]))
 (kI:∀y∈scope.names,y.2= .free->X.env.scope.names.lookup y.1=some .cell\/X.env.scope.names.lookup y.1=some .free):PE X (.Lambda params body scope pos) (acj X P defs qual params body scope):=by
 show 3;show 38;refine PySem.W.kla_eval abR ?_;rw[Nk];cases e:codeAmong pos ps.toList with
 |none=>
  refine PySem.W.kla_makeFunction oi I.ok.glob hg Eo `nt' W5 Jh e hgP hb fun c' ctv h' tk hx Wu jB UE Tc=>?_;obtain⟨c2,oc,vs,t,e2,QM,MN,hv⟩:=UE;cases e2;obtain⟨f,H',rfl,J,q⟩:=NS _ I hP Jh hall hq hx Wu jB QM MN hv Tc rfl rfl #[_,_,_,rfl] h;exact#[.ref _,H',J,rfl,q]
 |some cv=>
  refine PySem.W.kla_makeFunctionHit oi I.ok.glob hg Eo `nt' W5 Jh e hb fun ctv h' tk hk hsz=>?_;obtain⟨f,H',rfl,J,q⟩:=Op _ I hP Jh hall Tl e hk hsz rfl rfl #[_,_,_,rfl] h;exact#[.ref _,H',J,rfl,q]
def acx (X:Cx) (P:ak) (defs:List `ap') (name qual:Str) (params:Arguments) (body:List du) (scope:ju) (i:Nat):TS:=fun D σ H=>
 mkF X P defs (fun fd=>∃doc pm cdv ct,fd=fnX name qual params body scope `kv' .none .none doc pm none cdv ct) H fun f H'=>D.nx (σ.set i (some `bA')) H'
def jt {c P:ak} {defs:List `ap'} {name:Str} {params:Arguments} {body:List du} {scope:ju} {pos:Pos} {qual:Str} {i:Nat} (Eo:X.env.code= .ref c) (hC:Kb X.K c P) (hB:Pn X.K X.mg) (Nk:qualnameIn X.env name name=qual)
 (Tl:(pos,qual)∈defs) (hq:∀q∈defs,q.1.line=pos.line->q.1.col=pos.col->q.2=qual) (hd0:params.defaults=[]) (Tu:params.kw_defaults=[]) (ha:annTrees params none X.env=[])
 (kI:∀y∈scope.names,y.2= .free->X.env.scope.names.lookup y.1=some .cell\/X.env.scope.names.lookup y.1=some .free) (hN:X.N.Nodup) (hi:X.N[i]? =some name) (hx:VU X.env.scope name)
 (hf:X.fn name=true\/X.env.scope.names.lookup name=some .local:=by first|exact .inl rfl|exact .inr rfl|assumption):
 PS X (.FunctionDef name params body [] none [] scope none name pos) (acx X P defs name qual params body scope i):=by
 show 13;show 38;refine PySem.W.nestDef_K hd0 Tu ha ?_;rw[Nk];have oH:∀{f:ak} {H':Hp} {s':aS},cB X pins σ H' s'->D.nx (σ.set i (some `bA')) H'->wpAny `Tm X.A (storeName X.env name `bA') (fun _ QJ=>SP X pins D .next QJ) X.xe s':=fun J q=>
  tz J hN hi hx (v:=.ref _) rfl (fun QJ J'=>#[_,_,J',q]) hf
 cases e:codeAmong pos ps.toList with
 |none=>
  refine PySem.W.makeFunction_K oi I.ok.glob hg Eo `nt' W5 Jh e hgP hb fun c' ctv doc h' tk hx Wu jB UE Tc=>?_;obtain⟨c2,oc,vs,t,e2,QM,MN,hv⟩:=UE;cases e2;obtain⟨f,H',rfl,J,q⟩:=NS _ I hP Jh hall hq hx Wu jB QM MN hv Tc rfl rfl #[_,_,_,_,rfl] h;exact oH J q
 |some cv=>
  refine PySem.W.makeFunction_hit oi I.ok.glob hg Eo `nt' W5 Jh e hb fun ctv doc h' tk hk hsz=>?_;obtain⟨f,H',rfl,J,q⟩:=Op _ I hP Jh hall Tl e hk hsz rfl rfl #[_,_,_,_,rfl] h;exact oH J q
end
def GA (base h:cZ) (cs:List ak):cZ:=hideAll h ((List.range h.objs.size).filter fun b=>(base.get? b).isNone&& !cs.contains b)
def F3 {base h:cZ} {cs:List ak} {b:ak} {o:Obj} (e:h.get? b=some o) (hb:(base.get? b).isSome=true\/b∈cs):(GA base h cs).get? b=some o:=
 hideAll_get _ e fun hm=>by
  have:=(aO.mp hm).2;rw[aX] at this;rcases hb with z|z
  ·cases q:base.get? b with
   |none=>rw[q] at z;cases z
   |some x=>rw[q] at this;exact absurd this.1 `S'
  ·rw[j3.mpr z] at this;exact absurd this.2 `S'
def Jx {base h:cZ} {cs:List ak} {b:ak} {o:Obj} (e:(GA base h cs).get? b=some o):h.get? b=some o/\((base.get? b).isSome=true\/b∈cs):=by
 have e':=of_hideAll _ e;refine#[e',?_];by_cases hc:b∈cs
 ·exact .inr hc
 ·left
  cases q:base.get? b with
  |some x=>rfl
  |none=>
   have hm:b∈(List.range h.objs.size).filter fun b=>(base.get? b).isNone&& !cs.contains b:=aO.mpr ⟨aL.mpr (a8 e'),by
    rw[q,aX];refine#[rfl,?_];cases z:cs.contains b with
    |false=>rfl
    |true=>exact absurd (j3.mp z) hc⟩
   have:(GA base h cs).get? b=none:=PySem.W.hideAll_none _ hm;rw[this] at e;cases e
structure FU (X:Cx) (σ:St) (base:cZ):Prop where
 mod:Mod X.K X.mg base
 inj:∀x y c,X.env.cells.lookup x=some c->X.env.cells.lookup y=some c->x=y
 cell:∀x c,X.env.cells.lookup x=some c->∃v,base.IsCell c v
 val:∀(i:Nat) (x:Str) (v:V),X.N[i]? =some x->σ[i]? =some `eG'->X.env.scope.names.lookup x=some .cell->∃c u,X.env.cells.lookup x=some c/\base.IsCell c (some u)/\ff v u
 up:∀b o,X.base.get? b=some o->base.get? b=some o
 sz:X.base.objs.size<=base.objs.size
def FU.held {X:Cx} {σ:St} {base:cZ} {scope:ju} {F:List Str} {fvs:List V} (g:FU X σ base) (fY:fvs.length=F.length) (hF:∀x∈F,(x,NameKind.free)∈scope.names) (hF':∀y∈scope.names,y.2= .free->y.1∈F)
 (vc:∀x∈F,X.env.scope.names.lookup x=some .cell) (hv:∀(j:Nat) (x:Str) (v:V),F[j]? =some x->fvs[j]? =some v->∃i:Nat,X.N[i]? =some x/\σ[i]? =some `eG'):PY base `kv' F fvs:=by
 have cm:∀{y:Str} {c:ak},(y,c)∈u4 X scope->y∈F/\c=(X.env.cells.lookup y).getD 0:=fun{y c} hm=>by
  rcases n9 hm with z| ⟨h1,h2⟩
  ·cases z
  ·exact#[hF' _ h1 rfl,h2]
 have slot:∀x∈F,∃c u v,X.env.cells.lookup x=some c/\base.IsCell c (some u)/\ff v u:=fun x hx=>by
  obtain⟨j,hj,ej⟩:=cg.mp hx;have KU:j<fvs.length:=by rw[fY];exact hj
  obtain⟨i,h1,h2⟩:=hv j x fvs[j] `l4' (ao KU);obtain⟨c,u,h3,h4,h5⟩:=g.val i x _ h1 h2 (vc x hx);exact#[c,u,_,h3,h4,h5]
 have cl:∀{y:Str} {c:ak},(y,c)∈u4 X scope->X.env.cells.lookup y=some c:=fun{y c} hm=>by
  obtain⟨h1,h2⟩:=cm hm;obtain⟨c',_,_,h3,_⟩:=slot y h1;rw[h3] at h2;rw[h3,h2];rfl
 refine#[fun x y c a b=>g.inj x y c (cl a) (cl b),fun x c hm=>#[(cm hm).1,g.cell x c (cl hm)],fun j x v h1 h2=>?_,fY];obtain⟨i,e1,e2⟩:=hv j x v h1 h2;obtain⟨c,u,h3,h4,h5⟩:=g.val i x v e1 e2 (vc x (aQ h1));refine#[c,u,?_,h4,h5];obtain⟨c',e⟩:=nD (qu (hF x (aQ h1)));have e':=e;have:=cl (bJ e');rw[h3] at this;cases this;exact e'
def xf {h base Tf:cZ}:∀{l:List Env},h.FunFrames base l->(∀b∈Ig l,Tf.get? b=none)->h.FunFrames Tf l
 | [],_,_=>trivial
 |env::l,hl,hb=>by
  obtain⟨hk,⟨L,o,hf,_,ho,hd⟩,hr⟩:=hl;refine#[hk,#[L,o,hf,hb L `lz',ho,hd],xf hr fun b hm=>hb b (by unfold Ig;rw[jz,hf];exact aK _ hm)]
def JL {P:bN} {w:cV} {K:ai} {mg:Str->Option aA} {b1 b2:cZ} {CX:yx} {k:Nat} {f:ak} {fd:aH} {ps:List Str} {sp:Sp} (F:bT P w K mg b1 CX k f fd ps sp) (m:Mod K mg b1) (up:∀b o,b1.get? b=some o->b2.get? b=some o) (sz:b1.objs.size<=b2.objs.size):bT P w K mg b2 CX k f fd ps sp:=
 ⟨F.len,fun A outer s H args us vs Q E hr e0=>F.run A outer s H args us vs Q E hr ⟨e0.frames,m,fun b o e=>e0.bs b o (up b o e),aU sz e0.bsz,xf e0.funs (fun b hb=>by
  cases q:b1.get? b with
  |none=>rfl
  |some o=>
   have:=(e0.funs.mem hb).1;rw[up b o q] at this;cases this),e0.frf,e0.hok,e0.bare⟩⟩
section
variable {X:Cx} {CX:yx} {k:Nat} {f:ak} {fd:aH} {ps:List Str} {E:XK} {x:Str} {p pos:Pos} {e:Expr} {es:List Expr} {t:TA}
abbrev tP (X:Cx):List ak:=(X.env.cells.map (·.1)).filterMap fun x=>X.env.cells.lookup x
def tM {b:ak}:b∈tP X↔∃x,X.env.cells.lookup x=some b:=by
 constructor
 ·intro h;obtain⟨x,_,e⟩:=iP.mp h;exact#[x,e]
 ·rintro⟨x,e⟩;exact iP.mpr #[x,aV.mpr #[(x,b),bJ e,rfl],e]
def cB.grown {pins:List `cQ'} {σ:St} {H:Hp} {s:aS} (I:cB X pins σ H s) (En:∀x,X.fn x=true):
 ∃base,FU X σ base/\Bv X.prog X.w X.K X.mg base X.A X.stack s H:=by
 have up:∀b o,X.base.get? b=some o->(GA X.base s.heap (tP X)).get? b=some o:=fun b o e=>F3 (I.bk b o e) (.inl (by rw[e];rfl));have mod:Mod X.K X.mg (GA X.base s.heap (tP X)):=by
  obtain⟨h1,h2,⟨mb,h3,h4⟩,h5⟩:=I.ok.mod;exact#[fun b o e=>up b o (h1 b o e),h2.keeps up,#[mb,h3.keeps up,h4],h5.keeps up]
 have Nw:∀x c v,X.env.cells.lookup x=some c->s.heap.IsCell c v->(GA X.base s.heap (tP X)).IsCell c v:=fun x c v e ⟨o,ho,hd⟩=>
  #[o,F3 ho (.inr (tM.mpr #[x,e])),hd]
 refine#[GA X.base s.heap (tP X),#[mod,I.ok.inj,fun x c e=>?_,fun i x v h1 h2 h3=>?_,up,aU I.ok.bsz (aU I.sz (jg (nN _ _).symm))],#[I.ok.frames,mod,fun b o e=>?_,jg (nN _ _),xf I.stack fun b hb=>?_,I.stkFree,I.hok,I.bare]]
 ·obtain⟨v,z⟩:=I.cell x c e;exact#[v,Nw x c v e z]
 ·show 120;obtain⟨u,r,l⟩:=hl i x v h1 h2 (.inr (.inl h3));rcases l with⟨hk,_⟩| ⟨_,c,e,z⟩
  ·have hk:X.env.scope.names.lookup x=some .local:=hk;rw[h3] at hk;cases hk
  ·exact#[c,u,e,Nw x c _ e z,r]
 ·obtain⟨e1,h⟩:=Jx e;rcases h with h|h
  ·obtain⟨o',e2⟩:=jr.mp h;have:=I.bs b o' e2;rw[e1] at this;exact#[e1,this.2]
  ·obtain⟨x,h⟩:=tM.mp h;exact#[e1,I.freeC x b h]
 ·cases q:(GA X.base s.heap (tP X)).get? b with
  |none=>rfl
  |some o=>
   exfalso;obtain⟨e1,h⟩:=Jx q;rcases h with h|h
   ·have:=(I.stack.mem hb).1;rw[this] at h;cases h
   ·obtain⟨x,h⟩:=tM.mp h;rcases bh.mp (I.stkSub b hb) with z|z
    ·exact I.cne x b h z
    ·obtain⟨_,o',MO,_⟩:=I.ok.funs.mem z;have:=I.ok.cab x b (En x) h;exact absurd (bD (a8 MO) this) (dz _)
def Vx (X:Cx) (sp:cZ->Sp) (E:XK) (t:TA):TE:=fun σ H Q=>t σ H fun vs H1=>∀base,FU X σ base->sp base vs H1 Q E
def gp {sp:cZ->Sp} (F:∀base,Mod X.K X.mg base->bT X.prog X.w X.K X.mg base CX k f fd ps (sp base)) (hr:Room k X.A) (En:∀x,X.fn x=true) (hg:Gl X x) (hm:X.mg x=some `bA') (hk:keepIn X.K `bA'=true) (hb:fV X.K fd ps []) (hx:pR CX X E)
 (ha:PA X `dH' t) (Ex:`az'=false:=by decide) (he:starEach `dH' X.env=(false,eval e X.env)::starEach es X.env:=by rfl) (sI:(backTo pos `a0').any (·.1)=false:=by rfl):
 PE X `aG' (Vx X sp E t):=by
 show 3;refine dX `hV';refine lZ I.ok.mod.kin hk `bB' he sI;obtain⟨base,g,e0⟩:=I1.grown En;have q:=q base g;have hl:us.length=ps.length:=by rw[<-r.length];exact(F base g.mod).len _ _ _ _ q
 have hbb:BindsTo s1 fd `hZ' `fc':=by
  have:=hb s1 us I1.kIn (by rw[bU];exact hl);rw[bU] at this;exact this
 refine wpAny_call (mB ((F base g.mod).run X.A X.stack s1 H1 `hZ' us vs Q E hr e0 hbb r q) fun r s' hq=>?_);cases r with
 |error e=>exact hx pins σ H1 s1 e s' I1 hq
 |ok fl=>
  cases fl with
  |ret u=>exact I1.after hq
  |next=>exact False.elim hq
  |brk=>exact False.elim hq
  |cont=>exact False.elim hq
def VO (X:Cx) (CX:yx) (k i:Nat) (E:XK) (t:TA):TE:=fun σ H Q=>∃f fo u yB,σ[i]? =some (some `bA')/\H f=some `hL'/\fo.data= .func yB/\
 t σ H fun vs H1=>H1 f=some `hL'/\∃fd ps sp,bT X.prog X.w X.K X.mg X.base CX k f fd ps sp/\fV X.K fd ps []/\sp vs H1 Q E
def Oe {i:Nat} (hr:Room k X.A) (hx:pR CX X E) (ha:PA X `dH' t) (hN:X.N[i]? =some x:=by rfl) (hv:Uc X.env.scope x:=by first|exact Or.inl rfl|exact Or.inr `Cl|exact Or.inr `b0')
 (Ex:`az'=false:=by decide) (xr:`dy'=false:=by decide) (he:starEach `dH' X.env=(false,eval e X.env)::starEach es X.env:=by rfl) (sI:(backTo pos `a0').any (·.1)=false:=by rfl):
 PE X `aG' (VO X CX k i E t):=by
 show 3;obtain⟨f,fo,u,yB,hi,hf,hd,h⟩:=h;have fat:∀{H:Hp} {s:aS},cB X pins σ H s->H f=some `hL'->PySem.W.FnAt f s.heap:=fun I hf=>by
  have:=(I.hok f _ hf).1;obtain⟨oc,od,dt,sl⟩:=fo;have hd:=hd;subst hd;exact#[oc,od,yB,sl,this]
 refine dX (iH (Ho hN hv Ex xr pins s σ H `nN' I #[_,hi,rfl,rfl]) fun g s0 ⟨v,H',I0,r0,e1,e2⟩=>?_);subst e1 e2;have r0:=r0;subst r0;refine PySem.W.callWith_F (fat I0 hf) (iH (ha pos pins s0 σ _ _ I0 h) fun us s1 ⟨vs,H1,I1,r,hf1,fd,ps,sp,F,hb,q⟩=>#[fat I1 hf1,?_]) he sI;have:=DY F hr hb .nil hx I1 r (by rw[bU];exact q);exact this
end
def wG {CX:yx} {P:bN} {w:cV} {K:ai} {mg:Str->Option aA} {base:cZ} {k:Nat} {f:ak} {name qual:Str} {params:Arguments} {body:Expr} {scope:ju} {cl:List `fV'} {pm cdv ct:aA}
 {N ps F:List Str} {fvs:List V} {sp:Sp} (S:eR N ps F scope) (hc:PY base cl F fvs) (len:∀vs H Q E,sp vs H Q E->vs.length=ps.length)
 (lI:∀vs H Q E,sp vs H Q E->FnAt H f `hk')
 (u9:∀(A:dY) (outer:List Env) (s:aS) (H:Hp) (vs:List V) (Q:VK) (E:XK),Room k (A.deeper (envX qual scope s.heap.objs.size f cdv (cellsFrom `i' scope.names cl)))->sp vs H Q E->
  ∃t,PE `aF' body t/\t (start N (vs++fvs)) H Q):
 bT P w K mg base CX (k+1) f `hk' ps sp:=by
 show 185;show 46;refine PySem.W.kla_callFunE hr.depth Ut hfd S.co S.gen rfl #[c,oc,vs',t,xr,hco,MZ,hq] (hb _ _ _ _ ?_);show 10
 ·rw[cE];have KU:=(bd.mp hj).1;have h4:`gy'[j]? =some x:=by
   rw[S.pre,cq KU];exact hj
  rw[eX `mt] at h4;exact h4
 ·show 206
 ·refine#[I1.nolimit,PySem.W.kla_codeExpr ?_];show 198;have e1:Hn (replicate ps.length none++`Z') 0 vs=start N (vs++fvs):=by
   show 97
  rw[e1] at I1;refine fH (ht [] s1 _ H _ I1 sw) (fun u s' hs=>?_) fun e s' hs=>hs;obtain⟨v,H',J,rv,q⟩:=hs;exact `eK'
end L2
namespace PySem
section
variable {prog:bN} {w:cV} {K:Type} [DecidableEq K] {GD:HeapKind prog w K} {A:dY} {E:aA->aS->Prop} {s:aS}
def rZ {d a:ak} {xs:List (K×ak×aA)} {k:K} {dflt:aA} {Q:aA->aS->Prop} (hu:GD.room A) (GT:GD.is s.heap k a) (hm:s.heap.DictOfH GD d xs)
 (h1:∀p,atKey xs k=some p->Q p.2 {s with toks:=s.toks+GD.draws k})
 (h2:atKey xs k=none->∀h',h'.DictOfH GD d (storedH xs k a dflt)->Heap.SameBut d s.heap h'->Q dflt {s with heap:=h',toks:=s.toks+GD.draws k})
 (hsz:xs.length<=sizeLine):
 wpAny `C' A (dictSetDefault d `bu' dflt) Q E s:=by
 obtain⟨o,es,ep,ho,hc,hd,he,his,hn⟩:=hm;unfold dictSetDefault
 try with_reducible refine eS ?_
 refine ah (GD.pyHash hu GT ?_);refine ah (wpAny_dictFind_heap hu GT ho hd he his hn ?_ ?_)
 ·intro k8;have Jq:=atKey_none_of_get k8;have abc:=not_mem_keys_of_get k8;refine ah (lX (ah (wpAny_updateDictKeys (hz:=by have e:=size_of_entries he;omega) ho hd (aJ (h2 Jq _ ⟨_,_,ep+1,dv _ ho (Obj.isFreed_of_dict (Obj.data_mapDictKeys hd _)),
   hc.mapDictKeys _,Obj.data_mapDictKeys hd _,?_,?_,?_⟩ (gG ..))))))
  ·rw[storedH_new Jq];simp[he,entryOfKey]
  ·rw[storedH_new Jq];intro x hx;rcases eN.mp hx with hx|hx
   ·exact GD.keeps (his x hx) ho hd (gG ..)
   ·simp only[cT] at hx;subst hx;exact GD.keeps GT ho hd (gG ..)
  ·rw[storedH_new Jq];rw[bj,List.nodup_append];refine#[hn,by simp,?_];intro x hx y hy;simp only[bw,List.map_nil,cT] at hy;subst hy;exact fun e=>abc (e▸hx)
 ·intro j p hj;refine ah (kj ho hd ?_);rw[entry_at he j,hj];exact ah (lX (aJ (h1 p (atKey_of_get hn hj))))
def tj (GD:HeapKind prog w K) (d a:ak) (hd:`hq'=false) (dflt:aA):
 MeetsIn prog w (Builtin.«dict.setdefault» ⟨[.ref d,.ref a,dflt],[]⟩) (fun A R s=>GD.room A.in1/\∃k xs,GD.is s.heap k a/\s.heap.DictOfH GD d xs/\xs.length<=sizeLine/\
  (∀p,atKey xs k=some p->R (.ok (.ret p.2)) {s with toks:=s.toks+GD.draws k})/\
  (atKey xs k=none->∀h',h'.DictOfH GD d (storedH xs k a dflt)->Heap.SameBut d s.heap h'->R (.ok (.ret dflt)) {s with heap:=h',toks:=s.toks+GD.draws k})):=
 .of_wp fun A R s ⟨hu,k,xs,GT,hm,hz,h1,h2⟩=>by
  refine ah ?_;refine ah (wpAny_notOrdered_dict hm.typeIs ?_);refine aJ ?_;show wpAny _ _ (if `hq'=true then _ else(dictSetDefault d (Value.ref a) dflt >>= _)) _ _ s;rw[au (by rw[hd];exact c8)];exact ah (rZ (hsz:=hz) hu GT hm (fun p hp=>aJ #[p.2,rfl,h1 p hp]) fun hn h' CQ KP=>aJ #[dflt,rfl,h2 hn h' CQ KP])
end
end PySem
namespace L2
open PySem PySem.Spec PyProof.Rows
def DSd (H:Hp) (a:ak) (y z:V) (Q:VK):Prop:=
 (∃kvs k,H a=some `da'/\y=kV k/\kvs.length<sizeLine/\(∀v,iA kvs k=some v->Q v H)/\(iA kvs k=none->Q z (bO H a (.dK (kvs++[(k,z)])))))\/
 ∃kvs k b,H a=some `hd'/\y= .ref b/\H b=some `gh'/\kvs.length<sizeLine/\(∀v,iA kvs k=some v->Q v H)/\(iA kvs k=none->Q z (bO H a (.dT (kvs++[(k,z)]))))
def QE {X:Cx} {pins:List `cQ'} {σ:St} {H:Hp} {s:aS} {a:ak} {y z:V} {u r:aA} {A:dY} {E:aA->aS->Prop} {Q:VK} (hu:A.units+1<cLine) (I:cB X pins σ H s) (g:DSd H a y z Q) (ry:ff y u) (rz:ff z r):
 wpAny `Tm A (call (.builtin "dict.setdefault") [.ref a,u,r]) `bg' E s:=by
 rcases g with⟨kvs,k,e,ey,l,h1,h2⟩| ⟨kvs,k,b,e,ey,eb,l,h1,h2⟩
 ·subst ey;obtain⟨zl,hd,vs,qb,dd⟩:=J5 I.hok e;have hz:vs.length<=sizeLine:=by rw[<-qb.length];exact zl
  refine call_meetsIn j1 dd.typeIs nO (nn _ _ _) (kt_meets_setdefault (ij X.prog X.w) a (AA ry) hd r) #[vs,dd,hz,fun v hv=>?_,fun hn h' MR hs=>?_]
  ·have q:=qb.val k;rw[hv] at q;cases e2:iA kvs k with
   |none=>rw[e2] at q;exact q.elim
   |some v'=>
    rw[e2] at q;exact#[v',H,I.tok _,q,h1 v' e2]
  ·have q:=qb.val k;rw[hn] at q;have e2:iA kvs k=none:=by
    cases e2:iA kvs k with
    |none=>rfl
    |some v'=>rw[e2] at q;exact q.elim
   have he:∃q,h'.get? a=some q:=let⟨q,_,_,hq,_⟩:=MR;#[q,hq]
   have hp:=qb.put k rz;rw[EG z e2] at hp;refine#[z,_,vO I `ce' hs he (Ie (by rw[aE];exact l) hd hp MR),rz,h2 e2]
 ·subst ey;cases(ry);obtain⟨zl,hd,xs,qb,dd⟩:=Jw I.hok e;have hz:xs.length<=sizeLine:=by rw[<-bH qb];exact zl
  refine call_meetsIn j1 dd.typeIs nO (nn _ _ _) (tj (tupleKind (ij X.prog X.w)) a b hd r) #[lY hu,k,xs,Ai I.hok eb,dd,hz,fun p hp=>?_,fun hn h' MR hs=>?_]
  ·have q:=qb.val k;rw[hp] at q;cases e2:iA kvs k with
   |none=>rw[e2] at q;exact q.elim
   |some v'=>
    rw[e2] at q;exact#[v',H,I.tok _,q,h1 v' e2]
  ·have q:=qb.val k;rw[hn] at q;have e2:iA kvs k=none:=by
    cases e2:iA kvs k with
    |none=>rfl
    |some v'=>rw[e2] at q;exact q.elim
   obtain⟨o',es,ep,hq,z2,z3,z4,_,z5⟩:=MR;have hp:=qb.put k eb rz;rw[EG z e2] at hp;refine#[z,_,vO (ob:=.dT (kvs++[(k,z)])) I `ce' hs #[o',hq] #[by rw[aE];exact l,hd,_,hp.keeps fun c ys ec=>?_,o',es,ep,hq,z2,z3,z4,z5],rz,h2 e2];rw[aZ (eD ec e `dI')];exact ec
def ab9 (td ty tx:TE):TE:=fun σ H Q=>td σ H fun x H1=>∃a,x= .ref a/\IsD H1 a/\ty σ H1 fun y H2=>tx σ H2 fun z H3=>DSd H3 a y z Q
def AS {X:Cx} {o e f:Expr} {apos cpos:Pos} {td ty tx:TE} (hu:X.A.units+1<cLine) (ho:PE X o td) (he:PE X e ty) (hf:PE X f tx) (m:M2 X o "setdefault" apos e f cpos):PE X (.Call (.Attribute o "setdefault" apos) [e,f] [] cpos) (ab9 td ty tx):=by
 intro pins s σ H Q I h;refine wpAny_Call_method m.base m.few m.line PySem.F.plainAttrs_dict j1 PySem.F.type_dict_setdefault (iH `cw' fun u s1 ⟨x,H1,I1,rx,a,ex,d,q1⟩=>?_);subst ex;obtain rfl:=rx;obtain⟨t1,t2,_⟩:=PJ I1 d;refine⟨t1,t2,?_⟩;rw[m.trees];refine jU rfl (kP (iR (iH (he pins s1 σ H1 _ I1 q1) fun iv s2 ⟨y,H2,I2,ry,q2⟩=>
  iR (iH (hf pins s2 σ H2 _ I2 q2) fun fv s3 ⟨z,H3,I3,rz,g⟩=>kD ?_))))
 exact QE hu I3 g ry rz
end L2
namespace PySem
open Builtin
def uo:fillsNumberSlot (.type "tuple") "mul"=pure false:=
 fillsNumberSlot_seq (id:="tuple.__mul__") (r:=some (.builtin "tuple.__rmul__")) lj.lookup `BT F.slot_tuple_rmul.lookup `BT
def xX:seqRepeat? (.type "tuple")=pure (some (.builtin "tuple.__mul__")):=by
 unfold seqRepeat?;rw[seqSlot_of (T:="tuple") (name:="__mul__") (id:="tuple.__mul__") lj.lookup `BT,seqSlot_of (T:="tuple") (name:="__rmul__") (id:="tuple.__rmul__") F.slot_tuple_rmul.lookup `BT];rfl
def vh (a:Int) (t:Tok) (l:ak) (items:Array aA) (n:Nat) (dd:Option ak) (sl:Array `hN'):
 Meets (Builtin.«int.__rmul__» #[[.int a t,.ref l],[]]) (fun _ R s=>s.heap.get? l=some {cls:=.type "tuple",dict:=dd,data:=.seq items n,slots:=sl}/\R (.ok (.ret Value.notImplemented)) s):=
 .of_wp fun prog w A R s h=>by obtain⟨hp,g,d,tk,os⟩:=s;obtain⟨hl,h⟩:=h;wp_walk;exact `f0'
def vR (l:ak) (items:Array aA) (n:Nat) (dd:Option ak) (sl:Array `hN') (u:Tok):
 Meets (Builtin.«tuple.__mul__» #[[.ref l,.int 1 u],[]]) (fun _ R s=>s.heap.get? l=some {cls:=.type "tuple",dict:=dd,data:=.seq items n,slots:=sl}/\R (.ok (.ret `cp')) s):=
 .of_wp fun prog w A R s h=>by
  show 42;have f1:=idx_int
  wp_walk
  exact `f0'
def wf (l:ak) (items:Array aA) (n:Nat) (dd:Option ak) (sl:Array `hN') (x:Int) (u:Tok) (Jp:¬(decide (x< -(2^63))||decide (x ≥ 2^63))=true) (KY:¬(items.isEmpty||x==1)=true) (Ek:(decide (x<=0)||items.isEmpty)=true):
 Meets `gU' (fun _ R s=>s.heap.get? l=some {cls:=.type "tuple",dict:=dd,data:=.seq items n,slots:=sl}/\R (.ok (.ret `ai')) {s with heap:=s.heap.push {cls:=Value.type "tuple",data:=Data.seq #[]},toks:=s.toks}):=
 .of_wp fun prog w A R s h=>by
  show 42;have f1:=idx_int
  wp_walk
  refine wpAny_ite_false (bS Jp) ?_
  wp_walk
  exact `f0'
def vS (l:ak) (items:Array aA) (n:Nat) (dd:Option ak) (sl:Array `hN') (x:Int) (u:Tok) (Jp:¬(decide (x< -(2^63))||decide (x ≥ 2^63))=true) (KY:¬(items.isEmpty||x==1)=true) (Ek:¬(decide (x<=0)||items.isEmpty)=true)
 (hc3:¬(items.size*x>(2^63 - 1)/8)) (Tv:¬tupleTooMany (items.size*x)=true) (hsz:((replicate x.toNat items).foldl `ec' #[]).size<=sizeLine):
 Meets `gU' (fun _ R s=>s.heap.get? l=some {cls:=.type "tuple",dict:=dd,data:=.seq items n,slots:=sl}/\R (.ok (.ret `ai')) {s with heap:=s.heap.push {cls:=Value.type "tuple",data:=Data.seq ((replicate x.toNat items).foldl `ec' #[])},toks:=s.toks}):=
 .of_wp fun prog w A R s h=>by
  show 42;have f1:=idx_int
  wp_walk
  refine wpAny_ite_false (bS Jp) ?_
  wp_walk
  refine wpAny_ite_false (bS hc3) ?_
  wp_walk
  exact `f0'
end PySem
namespace L2
open PySem PySem.Spec PyProof.Rows
section
variable {X:Cx}
structure sQ (K:ai) (x y:V) (H:Hp) (Q:VK):Prop where h:∃a b xs ys,x= .ref a/\y= .ref b/\iX K H a xs/\iX K H b ys/\xs.length+ys.length<=sizeLine/\
 (xs=[]->Q `i4' H)/\(xs≠[]->ys=[]->Q `bu' H)/\(xs≠[]->ys≠[]->∀p,H p=none->Q `dR' (bO H p (.tup (xs++ys))))
def wc:E7 X `j2' (sQ X.K):=by
 show 18;obtain⟨a,b,xs,ys,rfl,rfl,ha,hb,hz,q0,q1,q2⟩:=h;by_cases hx:xs=[]
 ·subst hx;show 110;obtain⟨⟨cls,dd,data,sl⟩,ho,hc,n,hd⟩:=id p1;obtain⟨⟨abo,dd2,data2,sl2⟩,UT,Ek,n2,hd2⟩:=id p2;simp only at hc hd Ek hd2;subst hc hd Ek hd2;have he:its=[]:=r1.nil_iff.mpr rfl;exact concat_meets `gE' #[_,UT,rfl] noFill_tuple_add seq_tuple_add mC mr (lL _ _)
   (tuple_addW0 a b its.toArray Bn.toArray n n2 dd dd2 sl sl2 (by simp[he])) #[ho,UT,.ref b,H,I,rfl,q0 rfl]
 ·exact Su pins s σ H _ _ _ _ Q I rx ry #[a,b,xs,ys,rfl,rfl,ha,hb,hx,hz,q1 hx,q2 hx]
structure Fg (K:ai) (x y:V) (H:Hp) (Q:VK):Prop where h:∃a k v,x= .ref a/\y= .int k/\iX K H a [v]/\0<=k/\k<=sizeLine/\
 (k=1->Q `bu' H)/\(k≠1->∀p,H p=none->Q `dR' (bO H p (.tup (replicate k.toNat v))))
def BP (u:aA):∀(k:Nat) (cR:Array aA),(replicate k (List.toArray [u])).foldl `ec' cR=cR++(replicate k u).toArray
 |0,cR=>by simp
 |k+1,cR=>by
  rw[dD,dI,BP u k,dD];apply Array.ext';simp
def yz:E7 X `nm' (Fg X.K):=by
 show 18;obtain⟨a,k,w,rfl,rfl,ha,h0,hz,q1,q2⟩:=h;cases rx;obtain⟨t,rfl⟩:=ry;obtain⟨its,r1,p1,_⟩:=I.tuple ha;obtain⟨⟨cls,dd,data,sl⟩,ho,hc,n,hd⟩:=id p1;simp only at hc hd;subst hc hd;obtain⟨uw,rfl,ruw⟩:=yX r1;have h63:(sizeLine:Int)<2^63:=by decide
 have run:∀{Q':aA->aS->Prop},wpAny `Tm X.A (call (.builtin "tuple.__mul__") [.ref a,.int k t]) Q' X.xe s->wpAny `Tm X.A (binaryOp .Mult `bu' (.int k t)) Q' X.xe s:=fun h=>
  wpAny_binaryOp_repeat_ref (T:="tuple") (U:="int") `KK `gE' `nM' uo F.fills_int_mul oq xX F.slot_int_index.lookup
   (kK oq (typeIs_int s k t) F.entry_int_rmul (F.args_int_rmul_2 _ _) (vh k t a [uw].toArray n dd sl) #[ho,rfl,`gE',h])
 refine run ?_;by_cases e1:k=1
 ·subst e1;exact kK lj `gE' F.entry_tuple_mul `h7' (vR a [uw].toArray n dd sl t) #[ho,.ref a,H,I,rfl,q1 rfl]
 ·have Jp:¬(decide (k< -(2^63))||decide (k ≥ 2^63))=true:=by
   rw[lT,bK,bK];omega
  have KY:¬(([uw].toArray).isEmpty||k==1)=true:=by simpa using e1
  by_cases e0:k<=0
  ·have ek:k.toNat=0:=by omega
   refine kK lj `gE' F.entry_tuple_mul `h7' (wf a [uw].toArray n dd sl k t Jp KY (by rw[bp e0];rfl)) #[ho,?_];have q:=q2 e1 _ I.fresh;rw[ek] at q;exact#[.ref _,_,I.laid (t':=s.toks) (o:=.tup []) `eY' (ax _) #[aN _,[],.nil,IsTup.new _ _],rfl,q]
  ·have ef:(replicate k.toNat [uw].toArray).foldl `ec' #[]=(replicate k.toNat uw).toArray:=by
    have:=BP uw k.toNat #[]
    simpa using this
   have hn:k.toNat<=sizeLine:=by omega
   refine kK lj `gE' F.entry_tuple_mul `h7' (vS a [uw].toArray n dd sl k t Jp KY (by rw[bS e0];simp) ?_ ?_ ?_) #[ho,?_]
   ·have:(sizeLine:Int)<=(2^63 - 1)/8:=by decide
    show ¬((1:Nat):Int)*k>_;omega
   ·unfold tupleTooMany;rw[bK];show ¬((1:Nat):Int)*k>_;omega
   ·rw[ef]
    simpa using hn
   ·rw[ef];have rr:∀m:Nat,dy (replicate m w) (replicate m uw):=fun m=>by
     induction m with
     |zero=>exact .nil
     |succ m ih=>exact .cons ruw ih
    exact#[.ref _,_,I.laid (t':=s.toks) (o:=.tup (replicate k.toNat w)) `eY' (ax _) #[by rw[bo];exact hn,_,rr _,IsTup.new _ _],rfl,q2 e1 _ I.fresh]
end
section
variable {prog:bN} {w:cV}
def Lz {A:dY} (hh:A.handled=none) (I d:ak) (lH:d≠I) (o:Obj) (es:Array nu) (ep:Nat) (ui:o.data= .dict es ep):
 Walks prog w A I [I,d] [I] es.size `iO' (fun i h=>h.IsKeyIter I d i es.size ep/\h.get? d=some o) where
 sub:=fun b hb=>by simp at hb;simp[hb]
 frame:=fun _ _ _ st hk=>#[st.1.at fun o e=>hk I `S' o e,hk d `S' o st.2]
 item:=fun i s Q E hi st hQ=>by
  obtain⟨en,hx⟩:∃p,es[i]? =some p:=#[es[i],by simp[hi]]
  refine BA st.1 st.2 ui rfl hx fun h' Ep KP=>?_;exact hQ en.key h' s.toks #[en,hx,rfl] #[Ep,(KP.2 d lH).trans st.2] fun b o hb e=>KP.extBut b o (fun h=>hb (by simp[h])) e
 done:=fun s Q E st hQ=>DB hh st.1 st.2 ui rfl (ax _) fun h' W3=>hQ h' s.toks fun b o hb e=>W3 b o (fun h=>hb (by simp[h])) e
 self:=fun _ _ _ _ st hQ=>wpAny_pyIter_keyiter st.1 hQ
def JD {d:ak} {o:Obj} {es:Array nu} {ep:Nat} (lo:`hq'=false) (hc:o.ExactDict) (ui:o.data= .dict es ep):
 PySem.W.KdlSrc prog w "dict" d d es.size `iO' (fun h=>h.get? d=some o) where
 type:=fun _ hm=>#[o,hm,hc.1]
 there:=fun _ hm=>#[a8 hm,a8 hm]
 keep:=fun _ _ hm hk=>hk d `a8' o hm
 notList:=by decide
 notTuple:=by decide
 hint:=fun _ _ s _ hm hq=>PySem.W.kdl_hint_dict #[o,hm,hc.1] hq
 iter:=fun _ _ hh hm=>#[_,_,(fun _ _ hq=>Mh lo hm hc ui hq),Lz hh _ d (cF (a8 hm)) o es ep ui,#[`eB',ap _ hm]]
end
structure wN (xs:List V) (H:Hp) (Q:VK):Prop where h:∃a,xs=`eH'/\((∃kvs,H a=some `da'/\∀l,H l=none->Q `cp' (bO H l (.lst (kvs.map fun kv=>kV kv.1))))\/
 ∃kvs,H a=some `hd'/\∀l (bs:List ak),H l=none->Paired `bb' bs kvs->Q `cp' (bO H l `aL'))
def rX:∀{vs:List aA} {xs:List V},vs.length=xs.length->(∀(j:Nat) (u:aA),vs[j]? =some u->∃x,xs[j]? =some x/\ff x u)->dy xs vs
 | [],[],_,_=>.nil
 | [],_::_,h,_=>by cases h
 |_::_,[],h,_=>by cases h
 |u::vs,x::xs,h,hv=>by
  obtain⟨x',e,r⟩:=hv 0 u rfl;cases e;exact .cons r (rX `ew' fun j u' hu=>hv (j+1) u' hu)
def si {X:Cx} (u6:X.calm=true):rf X (.type "list") wN:=by
 show 20;obtain⟨a,rfl,h⟩:=h;obtain⟨u,rfl,ru⟩:=yX r;obtain rfl:=ru;have hh:=I.ok.hd u6;have oH:∀{h':cZ} {tk c':Nat} {EB:Array aA} {ys:List V},(∀b o,s.heap.get? b=some o->h'.get? b=some o)->h'.get? s.heap.objs.size=some {cls:=.type "list",dict:=none,data:=.seq EB c',slots:= #[]}->dy ys EB.toList->ys.length<=sizeLine->
  Q `ai' (bO H s.heap.objs.size `cC')->EP X pins σ Q `ai' {s with heap:=h',toks:=tk}:=fun{h' tk c' EB ys} hk hD hv hz q=>
  #[.ref _,_,I.laid (o:=.lst ys) hk (ax _) #[hz,EB.toList,c',hv,by rw[Array.toArray_toList];exact hD],rfl,q]
 rcases h with⟨kvs,e,q⟩| ⟨kvs,e,q⟩
 ·obtain⟨z,hd,vs,qb,o,es,ep,ho,hc,ui,Tu,hp,hn⟩:=J5 I.hok e;have hsz:es.size=kvs.length:=by rw[qb.length,<-hp.length];simp
  show 117;refine oH hk hD (rX (by rw[cU,wo.1,hsz,ae]) fun j u hu=>?_) (by rw[ae];exact z) (q _ I.fresh);obtain⟨en,he,rfl⟩:=wo.2 j u `jc';have hj:j<vs.length:=by
   rw[<-hp.length,cU];exact(Array.getElem?_eq_some_iff.mp he).1
  have KU:j<kvs.length:=by rw[qb.length];exact hj
  obtain⟨u',hu',_⟩:=VP qb (ao KU);have h3:=hp.get? (by rw[j4];exact he) hu';exact#[kV kvs[j].1,by rw[aR,ao KU];rfl,Qp h3.1]
 ·obtain⟨z,hd,xs,qb,dd⟩:=Jw I.hok e;obtain⟨o,es,ep,ho,hc,ui,hes,Tu,hn⟩:=dd;show 162
  show 117;have XO:∀{ks:List (List nB×V)} {ys:List (List nB×ak×aA)},KT H ks ys->Paired `bb' (ys.map fun y=>y.2.1) ks:=by
   intro ks ys h
   induction h with
   |nil=>exact .nil
   |cons h1 _ ih=>exact .cons h1.2.1 ih
  have q:=q _ (xs.map fun y=>y.2.1) I.fresh (XO qb);refine oH hk hD (rX (by rw[cU,wo.1,hsz,ae,ae,bH qb]) fun j u hu=>?_) (by rw[ae,ae,<-bH qb];exact z) q;obtain⟨en,he,rfl⟩:=wo.2 j u `jc';rw[entry_at hes j] at he;obtain⟨y,hy,rfl⟩:=fw.mp he;exact#[.ref y.2.1,by rw[aR,aR,hy];rfl,rfl]
end L2
namespace PySem
def Hm {prog:bN} {w:cV} {A:dY} {E:aA->aS->Prop} {s:aS} {d:ak} {o:Obj} {es:Array nu} {ep:Nat} {Q:aA->aS->Prop} (hd:`hq'=false) (ho:s.heap.get? d=some o) (hc:o.ExactDict) (ui:o.data= .dict es ep) (Nf:(es.size:Int)<2^63)
 (h:Q (.int es.size (s.toks+1)) {s with toks:=s.toks+1+1}):wpAny `C' A (call `gL' [.ref d]) Q E s:=by
 have hT:s.TypeIs (.ref d) "dict":=#[o,ho,hc.1]
 have XN:MeetsIn prog w (Builtin.«dict.__len__» #[[.ref d],[]]) (fun _ R s=>s.heap.get? d=some o/\R (.ok (.ret (.int es.size s.toks))) {s with toks:=s.toks+1}):=
  .of_wp fun A R s ⟨ho,h⟩=>by
   show wpAny _ _ (dictSize d >>= _) _ _ s;refine ah (ah (kj ho ui `cS'));refine ah (wpAny_pendingCount_other hd ?_);refine wpAny_ret_mkInt ?_;rw[Nat.add_zero];exact h
 refine Calls.call_function_entry kind_len plain_len entry_len (args_len1 _) ?_;refine ah `cS';refine ah (cX hT F.slot_dict_len
  (call_meetsIn F.slot_dict_len hT F.entry_dict_len (F.args_dict_len_1 _) XN #[ho,?_]))
 refine ah (eS `cS');refine ah (kJ ?_);rw[au `mt];rw[au `mt];exact ah (wpAny_mkInt (aJ `f0'))
end PySem
namespace L2
open PySem PySem.Spec PyProof.Rows
section
variable {X:Cx}
abbrev T3 (xs:List V) (H:Hp) (Q:VK):Prop:=∃a,xs=`lr'/\((∃kvs,H a=some `da'/\Q `is' H)\/∃kvs,H a=some `hd'/\Q `is' H)
def xo:rf X `gL' T3:=by
 show 20;obtain⟨a,rfl,h⟩:=h;rcases h with⟨kvs,ha,q⟩| ⟨kvs,ha,q⟩
 ·exact K6 pins s σ H _ us Q I r #[a,kvs,rfl,ha,q]
 ·obtain⟨u,rfl,ru⟩:=yX r;cases ru;obtain⟨z,hd,xs,qb,o,es,ep,ho,hc,ui,hes,_,_⟩:=Jw I.hok ha;show 162
  refine Hm hd ho hc ui (by rw[hsz];rw[mq] at z;omega) ?_;exact#[.int kvs.length,H,I.tok _,#[_,by rw[hsz]],q]
end
end L2
namespace PySem
open Sem (wp)
section
variable {prog:bN} {w:cV} {A:dY} {R:Result->aS->Prop} {I:ak} {fp wr:List ak} {n:Nat} {P:Nat->aA->Prop} {St:Nat->cZ->Prop}
def Ve (bt:Nat->Nat->Bool) (P:Nat->aA->Prop) (j:Nat) (rq:Array aA):Prop:=(j=0/\rq= #[])\/∃i vb,j=i+1/\rq= (List.toArray [vb,vb])/\P (argBest bt i) vb
def Dd (W:Walks prog w A.in1 I fp wr n P St) (bt:Nat->Nat->Bool) (UC:CmpOf prog w A.in1 .Gt P bt) (S:ak) (Tg:S∉fp) (d:aA):
 ∀(k j:Nat) (s:aS) (rq:Array aA) (c:Nat),n - j=k->j<=n->St j s.heap->Ve bt P j rq->s.heap.get? S=some {cls:=.type "list",dict:=none,data:=.seq rq c,slots:= #[]}->
 (n=0->∀h' tk,(∀b o,b∉wr->b≠S->s.heap.get? b=some o->h'.get? b=some o)->R (.ok (.ret d)) {s with heap:=h',toks:=tk})->
 (∀m,n=m+1->∀v h' tk,P (argBest bt m) v->(∀b o,b∉wr->b≠S->s.heap.get? b=some o->h'.get? b=some o)->R (.ok (.ret v)) {s with heap:=h',toks:=tk})->
 codeAny `C' A (.builtin "max.loop" #[[.ref I,.none,.ref S],`ka']) R s:=by
 have hSw:=fun z=>Tg (W.sub _ z);show 148
 intro k
 induction k with
 |zero=>
  intro j s rq c ek hj st hb hS h0 h1;obtain rfl:j=n:=by omega
  show 170;refine ah (wpAny_tryCatch (W.done s _ _ st fun h' tk kp=>?_));rcases hb with⟨z,rfl⟩| ⟨i,vb,z,rfl,hP⟩
  ·refine ah (lX `cS');exact h0 z h' tk fun b o MJ _ e=>kp b o MJ e
  ·refine ah (i7 (kp S _ hSw hS) rfl (ah (kJ `cS')));exact h1 i z vb _ tk hP fun b o MJ Nb e=>(dc _ _ (je Nb)).trans (kp b o MJ e)
 |succ k ih=>
  intro j s rq c ek hj st hb hS h0 h1;show 170;refine ah (wpAny_tryCatch (W.item j s _ _ `mt st fun v h' tk hPv Bh kp=>?_));have Zx:=kp S _ hSw hS;rcases hb with⟨rfl,rfl⟩| ⟨i,vb,rfl,rfl,hP⟩
  ·refine ah (m:=updateSeq S (fun _=> `kj')) (i7 Zx rfl ?_);rw[nm];refine aJ #[lK jI _,ih 1 _ `kj' _ `mt `mt `kk' (.inr #[0,v,rfl,rfl,hPv]) (dv _ Zx rfl) `ht' fun m hm v2 h2 Tk ZB k2=>?_]
   ·exact(dc _ _ `kq').trans e
   ·exact h1 m hm v2 h2 Tk ZB fun b o MJ Nb e=>k2 b o MJ Nb `jK'
  ·refine ah (m:=tryCatch (holding [v,v] (richCompare .Gt v vb >>= _)) _) (wpAny_tryCatch (eS (ah (UC (i+1) (argBest bt i) v vb _ _ _ hPv hP ?_))));refine ah (eS (ke (ah (kJ `cS'))));cases eb:bt (i+1) (argBest bt i) with
   |true=>
    refine ah (i7 Zx rfl (ah (kJ ?_)));rw[nm];refine aJ #[lK jI _,ih (i+1+1) _ `kj' _ `mt `mt `kk' (.inr #[i+1,v,rfl,rfl,by simp only[argBest,eb,oI];exact hPv]) (dv _ Zx rfl) `ht' fun m hm v2 h2 Tk ZB k2=>?_]
    ·exact(dc _ _ `kq').trans e
    ·exact h1 m hm v2 h2 Tk ZB fun b o MJ Nb e=>k2 b o MJ Nb `jK'
   |false=>
    refine ah (kJ ?_);rw[nm];refine aJ #[lK jI _,ih (i+1+1) _ (List.toArray [vb,vb]) c `mt `mt Bh (.inr #[i+1,vb,rfl,rfl,by simp only[argBest,eb,l7,pC];exact hP]) Zx `ht' fun m hm v2 h2 Tk ZB k2=>?_];exact h1 m hm v2 h2 Tk ZB fun b o MJ Nb e=>k2 b o MJ Nb (kp b o MJ e)
end
section
variable {prog:bN} {w:cV} {A:dY} {E:aA->aS->Prop} {s:aS}
def R8 {x d:aA} {Q:aA->aS->Prop}
 (h:wpAny `C' A.in1 (pyIter x) (fun it s2=>∃I fp wr n P St bt,it= .ref I/\Walks prog w A.in1 I fp wr n P St/\St 0 s2.heap/\(∀b∈fp,b<s2.heap.objs.size)/\CmpOf prog w A.in1 .Gt P bt/\
  (n=0->∀h' tk,(∀b o,b∉wr->s2.heap.get? b=some o->h'.get? b=some o)->Q d {s2 with heap:=h',toks:=tk})/\
  ∀m,n=m+1->∀v h' tk,P (argBest bt m) v->(∀b o,b∉wr->s2.heap.get? b=some o->h'.get? b=some o)->Q v {s2 with heap:=h',toks:=tk}) E s):
 wpAny `C' A (call `fj' [x] `ka') Q E s:=by
 show 148
 refine wpAny_call (codeAny_call_builtin F.plain_max F.entry_max ?_);have hck:checkBuiltinCall "max" #[[x],`ka']=(pure ():Sem Unit):=by
  kernel_rfl
 rw[hck];refine aJ ?_;refine ah (wpAny_of_eq (rfl) ?_);refine ah (aJ (ah (fH h (fun it s2 h2=>?_) fun _ _ e=>e)));obtain⟨I,fp,wr,n,P,St,bt,rfl,W,st,QK,UC,q0,q1⟩:=h2;refine ah (eE ?_);rw[nm];refine aJ #[lK jI _,Dd W bt UC s2.heap.objs.size (fun z=>dz _ (QK _ z)) d n 0 _ #[] _ (iC n) (aN n) (W.frame _ _ _ st fun b _ o e=>ap _ e) (.inl `hI') `f3' (fun z h' tk k=>?_) fun m hm v h' tk hP k=>?_]
 ·exact q0 z h' tk fun b o hb e=>k b o hb (cF (a8 e)) (ap _ e)
 ·exact q1 m hm v h' tk hP fun b o hb e=>k b o hb (cF (a8 e)) (ap _ e)
end
end PySem
namespace L2
open PySem PySem.Spec PyProof.Rows
section
variable {prog:bN} {w:cV} {A:dY} {E:aA->aS->Prop} {s:aS} {l:ak} {its:List aA} {ns:List Int} {Q:aA->aS->Prop}
def Lh {d:aA} (hh:A.handled=none) (hl:s.heap.IsList l its.toArray) (hi:IntsAre its ns) (q0:ns=[]->∀h' tk,(∀b o,s.heap.get? b=some o->h'.get? b=some o)->Q d {s with heap:=h',toks:=tk})
 (q1:∀h' tk M t',(∀b o,s.heap.get? b=some o->h'.get? b=some o)->M∈ns->(∀a,a∈ns->a<=M)->Q (.int M t') {s with heap:=h',toks:=tk}):wpAny `C' A (call `fj' [.ref l] `ka') Q E s:=by
 show 6
 show 226;rw[e] at hl;refine R8 (iter_intList hl fun s2 e2 st QK hlI=>?_);subst e2 hn;have rq:∀{h':cZ},(∀b o,b∉[s.heap.objs.size]->(s.heap.push {cls:=.type "list_iterator",data:=.fields (List.toArray [.ref l,.int 0 0])}).get? b=some o->h'.get? b=some o)->∀b o,s.heap.get? b=some o->h'.get? b=some o:=fun k b o e3=>
  k b o (fun z=>by have:=a8 e3;rw[cT.mp z] at this;exact dz _ this) (ap _ e3)
 refine#[_,_,_,_,_,_,_,rfl,Walks.list (A:=A.in1) hh _ l hlI (intItems xs),st,QK,CmpOf.ints_gt (numAt xs) (fun _ _=>intItems_at),fun z h' tk k=>q0 ?_ h' tk (rq k),fun m hm v h' tk hP k=>?_]
 ·have z:xs.size=0:=by simpa[intItems] using z
  exact bV.mp (by rw[ae,cU,z])
 ·have hm:xs.size=m+1:=by simpa[intItems] using hm
  obtain⟨t,rfl⟩:=intItems_at hP;obtain⟨h1,h2⟩:=argBest_gt (numAt xs) m;refine q1 h' tk _ t (rq k) ?_ fun a ha=>?_
  ·show 231
  ·show 126
end
section
variable {X:Cx}
structure Fe (K:ai) (vs zs:List V) (H:Hp) (Q:VK):Prop where h:∃(a:ak) (ns:List Int) (d:Int),vs=`lr'/\zs=[.int d]/\SqL K H a `gB'/\(ns=[]->Q (.int d) H)/\∀m,m∈ns->(∀y,y∈ns->y<=m)->Q (.int m) H
def aat (K:ai) (ta tk:TA):TE:=fun σ H Q=>ta σ H fun vs H1=>tk σ H1 fun zs H2=>Fe K vs zs H2 Q
def D3 {p pos:Pos} {e:Expr} {QP:List Keyword} {t tk:TA} (u6:X.calm=true) (hg:Gl X "max") (hm:X.mg "max"=none) (ha:PA X [e] t) (hkw:PK X QP tk) (hall:(backToKw pos `gb').all (·.1.isSome)=true:=by rfl) (yE:(backToKw pos `gb').filterMap (·.1)=[("default":Str)]:=by rfl)
 (he:starEach [e] X.env=(false,eval e X.env)::starEach [] X.env:=by rfl) (sI:((backTo pos `ku').any (·.1)||(backToKw pos `gb').any (·.1.isNone))=false:=by rfl):
 PE X (.Call (.Name "max" p) [e] QP pos) (aat X.K t tk):=by
 show 3;refine dX (mT I hg hm (show bootBuiltins "max"=some `fj' by decide+kernel) ?_);refine callWith_of (P:=fun _=>True) sI (fun _ _=>#[.machine,.inr `a8',of_pure rfl]) (evalArgs_kw2 hall (iH (ha pos pins s σ H _ I h) fun us s1 ⟨vs,H1,I1,r,q⟩=>?_) he);refine iH (hkw pos pins s1 σ H1 _ I1 q) fun ws s2 ⟨zs,H2,I2,rz,a,ns,d,ev,ez,hs,q0,q1⟩=>`dp'
 subst ev ez;rw[yE];obtain⟨its,rv,hl,_⟩:=I2.list hs;rw[dy.ref1 r];cases rz with
 |cons r1 r2=>
  cases r2;obtain⟨td,rfl⟩:=r1;exact Lh (I2.ok.hd u6) hl.isList rv.ints (fun z h' tk k=>#[.int d,H2,I2.kept k,`dQ',q0 z]) fun h' tk m t' k h1 h2=>#[.int m,H2,I2.kept k,`dQ',q1 m h1 h2]
end
section
variable {X:Cx}
def V0 (ta:TA):TE:=fun σ H Q=>ta σ H fun vs H1=>∃n:Nat,vs=[V.int n]/\n<=sizeLine/\∀l,H1 l=none->Q `cp' (bO H1 l (.lst `iS'))
def OU {p p2 pos Bo:Pos} {e:Expr} {ta:TA} (u6:X.calm=true) (Rm:Gl X "list") (Tr:X.mg "list"=none) (hgr:Gl X "range") (hmr:X.mg "range"=none) (ha:PA X [e] ta) (hs:starEach [e] X.env=`el':=by rfl)
 (Jo:starEach `kz' X.env=[(false,eval (.Call (.Name "range" p2) [e] [] Bo) X.env)]:=by rfl):PE X (.Call (.Name "list" p) `kz' [] pos) (V0 ta):=by
 show 3;show 135;refine Call_ (mT I hgr hmr boot_range (b7 (iH (ha Bo pins s σ H _ I h) fun us s1 ⟨vs,H1,I1,r1,n,ev,hz,q⟩=>?_) hs rfl));subst ev;cases r1 with
 |cons r rr=>
  cases rr;show 49;refine call_range_1 (kD ?_);have I2:cB X pins σ H1 {s1 with heap:=s1.heap.push {cls:=.type "range",data:=.fields (List.toArray [.int 0 s1.toks,.int n t,.int 1 (s1.toks+1)])},toks:=s1.toks+1+1}:=I1.kept fun b o e=>ap _ e;have hzz:(n:Int)<=16777216:=by rw[mq] at hz;omega
  refine call_list_range (I2.ok.hd u6) `i8' (small_one `mt `mt `mt `mt) ?_ (by rw[mq] at hz;exact hz) fun h' tk EB c' hk hD wo=>?_
  ·rw[rangeSize_one]
   split<;>omega
  ·refine#[.ref _,_,I2.laid (o:=.lst `iS') hk (ax _) #[by rw[ae,bv];exact hz,EB.toList,c',?_,by rw[Array.toArray_toList];exact hD],rfl,q _ I2.fresh];refine rX (by rw[cU,wo.1,ae,bv]) fun j u hu=>?_;have hj:j<n:=by
    have:=(bd.mp hu).1;rw[cU,wo.1] at this;exact this
   obtain⟨t',rfl⟩:=wo.2 j u `jc';refine#[V.int (j:Nat),by rw[aR,eZ hj];rfl,t',?_]
   congr 1
   omega
end
def T6 (P:bN) (w:cV) (K:ai) (a:ak) (kvs:List (nB×V)):Prop:=∀h:cZ,K.In h->∃vs,KV kvs vs/\h.DictOf `hA' a vs
section
variable {X:Cx} {o i:Expr} {pos:Pos} {td ty:TE}
def VN (X:Cx) (td ty:TE):TE:=fun σ H Q=>td σ H fun x H1=>ty σ H1 fun y H2=>∃a kvs k v,x= .ref a/\T6 X.prog X.w X.K a kvs/\y=kV k/\iA kvs k=some v/\Q v H2
def P9 (ho:PE X o td) (hi:PE X i ty) (hs:Vj i):PE X `gK' (VN X td ty):=by
 show 3;refine JU PySem.F.slot_dict_getitem.lookup hs (iH `cw' fun u s1 ⟨x,H1,I1,rx,q1⟩=>iH `hz' fun iv s2 ⟨y,H2,I2,ry,a,kvs,k,v,ex,g,ey,l,q2⟩=>?_);subst ex ey;obtain rfl:=rx;obtain⟨vs,qb,dd⟩:=g _ I2.kIn;obtain⟨w',hw,GJ⟩:=sD.some_of `nJ';refine#[?_,wpAny_getItem_of (AA ry) dd.mapOf hw #[v,H2,I2.tok _,GJ,q2]];obtain⟨ob,es,ep,h1,h2,_⟩:=dd;exact#[ob,h1,h2.1]
end
end L2
section
namespace L2
open PySem PySem.Spec PyProof.Rows
open PySem.W (WData Codec OpenSpec Well WellAll ReadsW ReadsAllW)
mutual
inductive Dw (K:ai) (H:Hp):V->WData->Prop
 |non:Dw K H .non .none
 |bl (b:Bool):Dw K H (.bl b) (.bool b)
 |int (i:Int):Dw K H (.int i) (.int i)
 |str (x:Str):Dw K H (.str x) (.str x)
 |byt (b:Array UInt8):Dw K H (.byt b) (.bytes b.toList)
 |lst {a:ak} {xs:List V} {ds:List WData}:SqL K H a xs->ng K H xs ds->Dw K H `bu' (.list ds)
 |tup {a:ak} {xs:List V} {ds:List WData}:iX K H a xs->ng K H xs ds->Dw K H `bu' (.tuple ds)
inductive ng (K:ai) (H:Hp):List V->List WData->Prop
 |nil:ng K H [] []
 |cons {v:V} {vs:List V} {d:WData} {ds:List WData}:Dw K H v d->ng K H vs ds->ng K H (v::vs) (d::ds)
end
def Ke {K:ai} {H:Hp}:∀ns:List Int,ng K H `gB' (ns.map WData.int)
 | []=>.nil
 |n::r=>.cons (.int n) (Ke r)
def JP {K:ai} {H:Hp}:∀(ns:List Int) (xs:List V),ng K H xs (ns.map WData.int)->xs=ns.map V.int
 | [],xs,h=>by
  cases h;rfl
 |n::r,xs,h=>by
  cases h with
  |cons h1 h2=>
   cases h1;rw[JP r _ h2]<;>rfl
section
variable {P:bN} {w:cV} {K:ai} {H:Hp} {h:cZ} {R:WRecords} {cl:Str->Option ak}
def VX {a:ak} {xs:List V} (hok:sG P w H h) (KX:K.In h) (q:SqL K H a xs):∃(its:List aA) (o:Obj) (n:Nat),dy xs its/\h.get? a=some o/\o.cls= .type "list"/\o.data= .seq its.toArray n:=by
 rcases q with q| ⟨o,its,n,e,hc,_,hd,_,hv⟩
 ·obtain⟨_,its,n,hv,e⟩:=(q.ok hok)
  exact#[its,_,n,hv,e,rfl,rfl]
 ·exact `hY'
def Vm {a:ak} {xs:List V} (hok:sG P w H h) (KX:K.In h) (q:iX K H a xs):∃(its:List aA) (o:Obj) (n:Nat),dy xs its/\h.get? a=some o/\o.cls= .type "tuple"/\o.data= .seq its.toArray n:=by
 rcases q with q| ⟨o,its,n,e,hc,hd,_,hv⟩
 ·obtain⟨_,its,hv,o,e,hc,n,hd⟩:=(q.ok hok)
  exact#[its,o,n,hv,e,hc,hd]
 ·exact `hY'
mutual
theorem Dw.reads (hok:sG P w H h) (KX:K.In h):∀(d:WData) (v:V) (u:aA),Dw K H v d->ff v u->∃as,ReadsW R cl h u d as
 | .none,_,_,x,r=>by
  cases x;cases r;exact#[_,ReadsW.none]
 | .bool b,_,_,x,r=>by
  cases x;cases r;exact#[_,ReadsW.bool b]
 | .int i,_,_,x,r=>by
  cases x;show 49;exact#[_,ReadsW.int i t]
 | .str s,_,_,x,r=>by
  cases x;show 49;exact#[_,ReadsW.str s t]
 | .bytes b,_,_,x,r=>by
  cases x;show 49;exact#[_,ReadsW.bytes _ t]
 | .list ds,_,_,x,r=>by
  cases x with
  |lst hs ha=>
   cases r;obtain⟨its,o,n,rv,ho,hc,hd⟩:=VX hok KX hs;obtain⟨as,hr⟩:=Dw.readsAll hok KX ds _ its ha rv;exact#[_,ReadsW.list ho hc hd hr]
 | .tuple ds,_,_,x,r=>by
  cases x with
  |tup hs ha=>
   cases r;obtain⟨its,o,n,rv,ho,hc,hd⟩:=Vm hok KX hs;obtain⟨as,hr⟩:=Dw.readsAll hok KX ds _ its ha rv;exact#[_,ReadsW.tuple ho hc hd hr]
 | .float _,_,_,x,_=>by cases x
 | .dict _,_,_,x,_=>by cases x
 | .bytearray _,_,_,x,_=>by cases x
 | .set _,_,_,x,_=>by cases x
 | .frozenset _,_,_,x,_=>by cases x
 | .obj _ _,_,_,x,_=>by cases x
theorem Dw.readsAll (hok:sG P w H h) (KX:K.In h):∀(ds:List WData) (vs:List V) (us:List aA),ng K H vs ds->dy vs us->∃as,ReadsAllW R cl h us ds as
 | [],_,_,x,r=>by
  cases x;cases r;exact#[_,ReadsAllW.nil]
 |d::ds,_,_,x,r=>by
  cases x with
  |cons h1 h2=>
   cases r with
   |cons r1 r2=>
    obtain⟨as,q1⟩:=Dw.reads hok KX d _ _ h1 r1;obtain⟨bs,q2⟩:=Dw.readsAll hok KX ds _ _ h2 r2;exact#[_,ReadsAllW.cons q1 q2]
end
end
mutual
def MU:WData->Bool
 | .none=>true
 | .bool _=>true
 | .int _=>true
 | .str _=>true
 | .bytes _=>true
 | .list xs=>Bp xs
 | .tuple xs=>Bp xs
 |_=>false
def Bp:List WData->Bool
 | []=>true
 |x::r=>MU x&&Bp r
end
def Gr {α:Type} {f:α->WData} (h:∀a,MU (f a)=true):∀l:List α,Bp (l.map f)=true
 | []=>rfl
 |x::r=>by
  show(MU (f x)&&Bp (r.map f))=true;rw[h x,Gr h r]<;>rfl
def sP:∀(c:Codec) (a:c.denote),MU (c.enc a)=true
 | .unit,_=>rfl
 | .bool,_=>rfl
 | .int _ _,_=>rfl
 | .nat _ _,_=>rfl
 | .u8,_=>rfl
 | .bytes _ _,_=>rfl
 | .text _ _ _ _,_=>rfl
 | .list _ _ c,a=>Gr (fun x=>sP c x) a
 | .pair c d,a=>by
  show(MU (c.enc a.1)&&(MU (d.enc a.2)&&true))=true;rw[sP c a.1,sP d a.2]<;>rfl
 | .triple c d e,a=>by
  show(MU (c.enc a.1)&&(MU (d.enc a.2.1)&&(MU (e.enc a.2.2)&&true)))=true;rw[sP c a.1,sP d a.2.1,sP e a.2.2]<;>rfl
 | .option c,none=>rfl
 | .option c,some x=>sP c x
def BJ:∀(cs:List Codec) (a:Codec.denoteAll cs),Bp (Codec.encAll cs a)=true
 | [],_=>rfl
 |c::cs,a=>by
  show(MU (c.enc a.1)&&Bp (Codec.encAll cs a.2))=true;rw[sP c a.1,BJ cs a.2]<;>rfl
def uS:∀{xs:List WData} {d:WData},d∈xs->d.weight<=WData.weightAll xs
 | [],d,h=>absurd h `S'
 |x::r,d,h=>by
  show d.weight<=x.weight+1+WData.weightAll r;rcases bh.mp h with e|m
  ·rw[e];omega
  ·have z:=uS m;omega
def EK:aA->V
 | .none=>.non
 | .bool b=>.bl b
 | .int i _=>.int i
 | .str x _=>.str x
 | .bytes b _=>.byt b
 | .ref a=>.ref a
 |_=>.non
def Lx (A:List ak):aA->Prop
 | .none=>True
 | .bool _=>True
 | .int _ _=>True
 | .str _ _=>True
 | .bytes _ _=>True
 | .ref a=>a∈A
 |_=>False
def Lx.mono {A B:List ak} (h:∀a∈A,a∈B):∀{u:aA},Lx A u->Lx B u:=fun{u} x=>by
 cases u with
 |ref a=>exact h a x
 |none=>trivial
 |bool b=>trivial
 |int i t=>trivial
 |str s t=>trivial
 |bytes b t=>trivial
 |_=>exact False.elim x
def Ou {A:List ak} {u:aA} (x:Lx A u):ff (EK u) u:=by
 cases u with
 |ref a=>rfl
 |none=>rfl
 |bool b=>rfl
 |int i t=>exact `m1'
 |str s t=>exact `m1'
 |bytes b t=>exact `m1'
 |_=>exact False.elim x
def qY {A:List ak}:∀{vs:List aA},(∀u∈vs,Lx A u)->dy `gI' vs
 | [],_=>.nil
 |u::r,h=>.cons (Ou (h u `dG')) (qY fun x hx=>h x (aK _ hx))
def sn (h:cZ) (A:List ak) (a:ak):Prop:=∃vs:List aA,vs.length<=sizeLine/\(∀u∈vs,Lx A u)/\
 (h.get? a=some {cls:=.type "list",data:=.seq vs.toArray}\/h.get? a=some {cls:=.type "tuple",data:=.seq vs.toArray})
def sn.mono {h:cZ} {A B:List ak} {a:ak} (k:∀a∈A,a∈B) (x:sn h A a):sn h B a:=by
 obtain⟨vs,h1,h2,h3⟩:=x;exact#[vs,h1,fun u hu=>(h2 u hu).mono k,h3]
def qy {P:Params} {h:cZ}:∀{vs:List aA} {ds:List WData},WellAll P h vs ds->vs.length=ds.length
 |_,_,.nil=>rfl
 |_,_,.cons _ b=>by
  show _+1=_+1;rw[qy b]
def Co {P:Params} {h:cZ} {v:aA} {ds:List WData} (x:Well P h v (.list ds)):∃(a:ak) (vs:List aA),v= .ref a/\h.get? a=some {cls:=.type "list",data:=.seq vs.toArray}/\WellAll P h vs ds:=by
 cases x with
 |list ho hall=>exact#[_,_,rfl,ho,hall]
def AC {P:Params} {h:cZ} {v:aA} {ds:List WData} (x:Well P h v (.tuple ds)):∃(a:ak) (vs:List aA),v= .ref a/\h.get? a=some {cls:=.type "tuple",data:=.seq vs.toArray}/\WellAll P h vs ds:=by
 cases x with
 |tuple ho hall=>exact#[_,_,rfl,ho,hall]
def B7 {P:Params} {h:cZ} {us:List aA} {d:WData} {ds:List WData} (x:WellAll P h us (d::ds)):∃(v:aA) (vs:List aA),us=v::vs/\Well P h v d/\WellAll P h vs ds:=by
 cases x with
 |cons a b=>exact#[_,_,rfl,a,b]
def JO {n:Nat} (h:n<=1048576):n<=sizeLine:=aU h `KK
section
variable {P:Params} {h:cZ}
mutual
theorem Oo:∀(d:WData) (v:aA),Well P h v d->MU d=true->d.weight<=1048576->∃A:List ak,Lx A v/\∀a∈A,sn h A a
 | .none,_,x,_,_=>by
  cases x;exact#[[],trivial,fun a m=>absurd m `S']
 | .bool b,_,x,_,_=>by
  cases x;exact#[[],trivial,fun a m=>absurd m `S']
 | .int i,_,x,_,_=>by
  cases x;exact#[[],trivial,fun a m=>absurd m `S']
 | .str s,_,x,_,_=>by
  cases x;exact#[[],trivial,fun a m=>absurd m `S']
 | .bytes b,_,x,_,_=>by
  cases x;exact#[[],trivial,fun a m=>absurd m `S']
 | .list ds,_,x,p,z=>by
  obtain⟨a,vs,rfl,ho,hall⟩:=Co x;show 24
  ·rw[e];exact#[vs,JO `fz',fun u hu=>(h1 u hu).mono k,.inl ho]
  ·exact(h2 b m).mono k
 | .tuple ds,_,x,p,z=>by
  obtain⟨a,vs,rfl,ho,hall⟩:=AC x;show 24
  ·rw[e];exact#[vs,JO `fz',fun u hu=>(h1 u hu).mono k,.inr ho]
  ·exact(h2 b m).mono k
 | .float _,_,_,p,_=>noConfusion (p)
 | .dict _,_,_,p,_=>noConfusion (p)
 | .bytearray _,_,_,p,_=>noConfusion (p)
 | .set _,_,_,p,_=>noConfusion (p)
 | .frozenset _,_,_,p,_=>noConfusion (p)
 | .obj _ _,_,_,p,_=>noConfusion (p)
theorem vF:∀(ds:List WData) (vs:List aA),WellAll P h vs ds->Bp ds=true->(∀d∈ds,d.weight<=1048576)->∃A:List ak,(∀u∈vs,Lx A u)/\∀a∈A,sn h A a
 | [],_,x,_,_=>by
  cases x;exact#[[],fun u m=>absurd m `S',fun a m=>absurd m `S']
 |d::ds,_,x,p,z=>by
  obtain⟨v,vs,rfl,x1,x2⟩:=B7 x;have q:=cW.mp p;obtain⟨A,a1,a2⟩:=Oo d v x1 q.1 (z d `dG');obtain⟨B,b1,b2⟩:=vF ds vs x2 q.2 fun e he=>z e (aK _ he);have kA:∀b∈A,b∈A++B:=fun b hb=>eN.mpr (.inl hb);have kB:∀b∈B,b∈A++B:=fun b hb=>eN.mpr (.inr hb);refine#[A++B,fun u hu=>?_,fun b hb=>?_]
  ·rcases bh.mp hu with e|m
   ·rw[e];exact a1.mono kA
   ·exact(b1 u m).mono kB
  ·rcases eN.mp hb with m|m
   ·exact(a2 b m).mono kA
   ·exact(b2 b m).mono kB
end
end
def S6 (o:Obj):Option HO:=match o.data with
 | .seq vs _=>if(o.cls==Value.type "list")=true then some (.frz o (.lst (vs.toList.map EK))) else some (.frz o (.tup (vs.toList.map EK)))
 |_=>none
def nW (K:ai) (h:cZ) (A:List ak):Hp:=fun b=>if b∈A then(if(K.lookup b).isNone=true then(h.get? b).bind S6 else none) else none
def aaq (H:Hp):Prop:=∀b,H b=none\/∃o u,H b=some `i0'
def FF (vs:List aA):S6 {cls:=.type "list",data:=.seq vs.toArray}=some (.frz {cls:=.type "list",data:=.seq vs.toArray} (.lst `gI')):=by
 show(if(Value.type "list"==Value.type "list")=true then some (HO.frz {cls:=.type "list",data:=.seq vs.toArray} (.lst `eT')) else some (HO.frz {cls:=.type "list",data:=.seq vs.toArray} (.tup `eT')))=_;rw[aD (nj _)]
def Fw (vs:List aA):S6 {cls:=.type "tuple",data:=.seq vs.toArray}=some (.frz {cls:=.type "tuple",data:=.seq vs.toArray} (.tup `gI')):=by
 show(if(Value.type "tuple"==Value.type "list")=true then some (HO.frz {cls:=.type "tuple",data:=.seq vs.toArray} (.lst `eT')) else some (HO.frz {cls:=.type "tuple",data:=.seq vs.toArray} (.tup `eT')))=_;rw[au `KK]
section
variable {P:bN} {w:cV} {K:ai} {h:cZ} {A:List ak}
def yi {b:ak} {o:Obj} (hb:b∈A) (hk:K.lookup b=none) (e:h.get? b=some o):nW K h A b=S6 o:=by
 unfold nW;rw[aD hb,hk,aD (show(none:Option Obj).isNone=true from rfl),e]<;>rfl
def RX {b:ak} {u:HO} (q:nW K h A b=some u):b∈A/\K.lookup b=none:=by
 unfold nW at q;by_cases hb:b∈A
 ·rw[aD hb] at q;cases hk:K.lookup b with
  |none=>exact#[hb,rfl]
  |some o=>
   rw[hk,au `S'] at q;cases q
 ·rw[au hb] at q;cases q
def vx (ar:∀a∈A,sn h A a) {b:ak} {u:HO} (q:nW K h A b=some u):K.lookup b=none/\∃vs:List aA,vs.length<=sizeLine/\(∀u∈vs,Lx A u)/\
 ((h.get? b=some {cls:=.type "list",data:=.seq vs.toArray}/\u= .frz {cls:=.type "list",data:=.seq vs.toArray} (.lst `gI'))\/
  (h.get? b=some {cls:=.type "tuple",data:=.seq vs.toArray}/\u= .frz {cls:=.type "tuple",data:=.seq vs.toArray} (.tup `gI'))):=by
 obtain⟨hb,hk⟩:=RX q;obtain⟨vs,h1,h2,h3⟩:=ar b hb;refine#[hk,vs,h1,h2,?_];rcases h3 with e|e
 ·rw[yi hb hk e,FF] at q;exact .inl #[e,(aP q).symm]
 ·rw[yi hb hk e,Fw] at q;exact .inr #[e,(aP q).symm]
def LL (ar:∀a∈A,sn h A a):aaq `lg':=fun b=>by
 cases q:nW K h A b with
 |none=>exact .inl rfl
 |some u=>
  obtain⟨_,vs,_,_,⟨_,e⟩| ⟨_,e⟩⟩:=vx ar q
  ·exact .inr #[_,_,by rw[e]]
  ·exact .inr #[_,_,by rw[e]]
def S2 (ar:∀a∈A,sn h A a):sG P w `lg' h:=fun b u q=>by
 obtain⟨_,vs,h1,h2,⟨e,rfl⟩| ⟨e,rfl⟩⟩:=vx ar q
 ·exact#[e,by rw[ae];exact h1,vs,_,qY h2,e]
 ·exact#[e,by rw[ae];exact h1,vs,qY h2,_,e,rfl,_,rfl]
def yl {c c':aA} {vs us:List aA} (e:(some {cls:=c,data:=.seq vs.toArray}:Option Obj)=some {cls:=c',data:=.seq us.toArray}):c=c'/\vs=us:=by
 have e1:=aP e;have e2:=dH Obj.cls e1;have e3:=dH Obj.data e1;injection e3 with e4
 refine#[e2,?_];have e5:=dH Array.toList e4
 simpa using e5
def acy (KX:K.In h) (ar:∀a∈A,sn h A a) {a:ak} {vs:List aA} (ha:a∈A) (e:h.get? a=some {cls:=.type "list",data:=.seq vs.toArray}):(∀u∈vs,Lx A u)/\SqL K `lg' a `gI':=by
 obtain⟨us,h1,h2,h3⟩:=ar a ha;have hu:us=vs:=by
  rcases h3 with q|q
  ·rw[e] at q;exact(yl q).2.symm
  ·show 236
 subst hu;refine#[h2,?_];cases hk:K.lookup a with
 |none=>exact .inl (.inr #[_,by rw[yi ha hk e,FF]])
 |some o=>
  have e2:=KX a o hk;rw[e] at e2;obtain rfl:=aP e2;exact .inr #[_,us.toArray,_,hk,rfl,rfl,rfl,by rw[bn];exact h1,by simpa using qY h2]
def acE (KX:K.In h) (ar:∀a∈A,sn h A a) {a:ak} {vs:List aA} (ha:a∈A) (e:h.get? a=some {cls:=.type "tuple",data:=.seq vs.toArray}):(∀u∈vs,Lx A u)/\iX K `lg' a `gI':=by
 obtain⟨us,h1,h2,h3⟩:=ar a ha;have hu:us=vs:=by
  rcases h3 with q|q
  ·show 236
  ·rw[e] at q;exact(yl q).2.symm
 subst hu;refine#[h2,?_];cases hk:K.lookup a with
 |none=>exact .inl (.inr #[_,by rw[yi ha hk e,Fw]])
 |some o=>
  have e2:=KX a o hk;rw[e] at e2;obtain rfl:=aP e2;exact .inr #[_,us.toArray,_,hk,rfl,rfl,by rw[bn];exact h1,by simpa using qY h2]
mutual
theorem VF {Pm:Params} (KX:K.In h) (ar:∀a∈A,sn h A a):∀(d:WData) (v:aA),Well Pm h v d->MU d=true->Lx A v->Dw K `lg' (EK v) d
 | .none,_,x,_,_=>by
  cases x;exact .non
 | .bool b,_,x,_,_=>by
  cases x;exact .bl b
 | .int i,_,x,_,_=>by
  cases x;exact .int i
 | .str s,_,x,_,_=>by
  cases x;exact .str s
 | .bytes b,_,x,_,_=>by
  cases x;have z:=Dw.byt (K:=K) (H:=nW K h A) b.toArray;exact z
 | .list ds,_,x,p,hu=>by
  obtain⟨a,vs,rfl,ho,hall⟩:=Co x;obtain⟨h2,hs⟩:=acy KX ar hu ho;exact .lst hs (DN KX ar ds _ hall p h2)
 | .tuple ds,_,x,p,hu=>by
  obtain⟨a,vs,rfl,ho,hall⟩:=AC x;obtain⟨h2,hs⟩:=acE KX ar hu ho;exact .tup hs (DN KX ar ds _ hall p h2)
 | .float _,_,_,p,_=>noConfusion (show false=true from p)
 | .dict _,_,_,p,_=>noConfusion (p)
 | .bytearray _,_,_,p,_=>noConfusion (p)
 | .set _,_,_,p,_=>noConfusion (p)
 | .frozenset _,_,_,p,_=>noConfusion (p)
 | .obj _ _,_,_,p,_=>noConfusion (p)
theorem DN {Pm:Params} (KX:K.In h) (ar:∀a∈A,sn h A a):∀(ds:List WData) (vs:List aA),WellAll Pm h vs ds->Bp ds=true->(∀u∈vs,Lx A u)->ng K `lg' `gI' ds
 | [],_,x,_,_=>by
  cases x;exact .nil
 |d::ds,_,x,p,hu=>by
  obtain⟨v,vs,rfl,x1,x2⟩:=B7 x;have q:=cW.mp p;exact .cons (VF KX ar d v x1 q.1 (hu _ `dG')) (DN KX ar ds vs x2 q.2 fun u m=>hu u (aK _ m))
end
end
def Ba {ds:List WData} (h:WData.layableAll ds=true):∀d∈ds,d.weight<=1048576:=fun d hd=>
 (PySem.W.layableW_iff.mp (eY.mp h d hd)).2.2
def AZ:∀(cs:List Codec) (a:Codec.denoteAll cs),(Codec.encAll cs a).length=cs.length
 | [],_=>rfl
 |c::cs,a=>by
  show(Codec.encAll cs a.2).length+1=cs.length+1;rw[AZ cs a.2]
end L2
end
namespace L2
open PySem PySem.Spec PyProof.Rows
open PySem.W (WData Codec OpenSpec Well WellAll ReadsW ReadsAllW)
def aam {K:ai} {H H':Hp} {a:ak} {xs:List V} (s:∀b o,H b=some o->H' b=some o) (h:SqL K H a xs):SqL K H' a xs:=by
 rcases h with(h| ⟨o,h⟩)|h
 ·exact .inl (.inl (s _ _ h))
 ·exact .inl (.inr #[o,s _ _ h])
 ·exact .inr h
def Vn {K:ai} {H H':Hp} {a:ak} {xs:List V} (s:∀b o,H b=some o->H' b=some o) (h:iX K H a xs):iX K H' a xs:=by
 rcases h with(h| ⟨o,h⟩)|h
 ·exact .inl (.inl (s _ _ h))
 ·exact .inl (.inr #[o,s _ _ h])
 ·exact .inr h
mutual
theorem Dw.more {K:ai} {H H':Hp} (s:∀b o,H b=some o->H' b=some o):∀{v:V} {d:WData},Dw K H v d->Dw K H' v d
 |_,_,.non=>.non
 |_,_,.bl b=>.bl b
 |_,_,.int i=>.int i
 |_,_,.str x=>.str x
 |_,_,.byt b=>.byt b
 |_,_,.lst h t=>.lst (aam s h) (ng.more s t)
 |_,_,.tup h t=>.tup (Vn s h) (ng.more s t)
theorem ng.more {K:ai} {H H':Hp} (s:∀b o,H b=some o->H' b=some o):∀{vs:List V} {ds:List WData},ng K H vs ds->ng K H' vs ds
 |_,_,.nil=>.nil
 |_,_,.cons h t=>.cons (Dw.more s h) (ng.more s t)
end
def D0 (ts:List ak) (H:Hp):Hp:=fun b=>if b∈ts then some (.tbl #[]) else H b
def JN (ts:List ak) (H:Hp):Prop:=(∀t∈ts,H t=some (.tbl #[]))/\∀b,b∉ts->H b=none\/∃o u,H b=some `i0'
def IV {P:bN} {w:cV} {K:ai} {mg mb:Str->Option aA} {CX:yx} {k:Nat} {fa:ak} {fd:aH} {ps:List Str} {sp:Sp} {s1:aS} {Bl:List aA} {ds:List WData} {R:WRecords} {cl:Str->Option ak} {d0:WData} {tabs:List (ak×ak)}
 (hT:TabsAt tabs s1.heap) (hnT:noTabs K=true)
 (KX:K.In s1.heap) (hns:s1.heap.Ns mainGlobals mg) (hb:s1.heap.Ns builtinsNs mb) (hbb:∀x:Str,x≠"__name__"->mb x=bootBuiltins x) (abK:s1.heap.NoLimit) (hg:s1.gens= #[])
 (Re:WellAll w.params s1.heap Bl ds) (sI:Bp ds=true) (hwt:∀d∈ds,d.weight<=1048576) (hr:Room k callerA)
 (F:∀base:cZ,Mod K mg base->bT P w K mg base CX k fa fd ps sp) (WJ:∀(s:aS) (us:List aA),us.length=ps.length->BindsTo s fd `hZ' `fc') (fY:ds.length=ps.length)
 (BE:∀(H:Hp) (xs:List V),JN (tabs.map (·.2)) H->ng K H xs ds->sp xs H (fun v H'=>Dw K H' v d0) fun _ _ _=>False)
 (hCX:∀H e s',CX [] H s1 (fun _ _ _=>False) e s'->False):
 codeAny `gG' callerA (.call (.ref fa) #[Bl,[]]) (fun r s'=>∃u as,r= .ok (.ret u)/\ReadsW R cl s'.heap u d0 as/\OldK s1.heap s'.heap/\s'.os=s1.os/\AllBare s'.gens) s1:=by
 obtain⟨A,ho,ar⟩:=vF ds Bl Re sI hwt;have hO:=LL (K:=K) ar;have hok:=S2 (P:=P) (w:=w) (K:=K) ar;have hS:=DN KX ar ds Bl Re sI ho;have hV:=qY ho;have yF:∀t,t∈tabs.map (·.2)->s1.heap.get? t=some (tabObj #[]):=fun t ht=>by
  obtain⟨q,hq,rfl⟩:=aV.mp ht;exact(hT q hq).2
 have UN:∀b u,nW K s1.heap A b=some u->b∉tabs.map (·.2):=fun b u q hm=>by
  have e:=yF b hm;obtain⟨_,vs,_,_,⟨e2,_⟩| ⟨e2,_⟩⟩:=vx ar q<;>(rw[e2] at e;cases e)
 have up:∀b u,nW K s1.heap A b=some u->D0 (tabs.map (·.2)) `dK' b=some u:=fun b u q=>by
  unfold D0;rw[au (UN b u q)];exact q
 have tab:∀t,t∈tabs.map (·.2)->D0 (tabs.map (·.2)) `dK' t=some (.tbl #[]):=fun t ht=>aD ht;have Es:∀b,b∉tabs.map (·.2)->D0 (tabs.map (·.2)) `dK' b=nW K s1.heap A b:=fun b hm=>au hm;have hOT:JN (tabs.map (·.2)) (D0 (tabs.map (·.2)) `dK'):=#[tab,fun b hm=>by rw[Es b hm];exact hO b]
 have Uq:sG P w (D0 (tabs.map (·.2)) `dK') s1.heap:=fun b u e=>by
  show 125
  ·rw[tab b hm] at e;cases e;exact yF b hm
  ·rw[Es b hm] at e;exact(hok b u e).stay (fun c v _ q=>q) (fun c q=>up c _ q) fun c xs q=>up c _ q
 have Zr:=ng.more up hS;have noD:∀{b:ak} {o:Obj} {es:Array nu} {ep:Nat},s1.heap.get? b=some o->o.data= .dict es ep->D0 (tabs.map (·.2)) `dK' b=none:=fun{b o es ep} e d=>by
  show 125
  ·rw[yF b hm] at e;cases e;cases d
  ·rw[Es b hm];cases q:nW K s1.heap A b with
   |none=>rfl
   |some u=>
    obtain⟨_,vs,_,_,⟨e2,_⟩| ⟨e2,_⟩⟩:=vx ar q<;>
    ·rw[e2] at e;cases e;cases d
 have nK:∀b o,K.lookup b=some o->D0 (tabs.map (·.2)) `dK' b=none:=fun b o e=>by
  have hm:b∉tabs.map (·.2):=fun hm=>by
   show 173
  rw[Es b hm];cases q:nW K s1.heap A b with
  |none=>rfl
  |some u=>
   rw[(vx ar q).1] at e;cases e
 generalize D0 (tabs.map (·.2)) `dK'=H at hOT Uq Zr noD nK;have Jc:∀{b:ak} {o:Obj},s1.heap.get? b=some o->H b=none->(Fn s1.heap H).get? b=some o:=fun e n=>PZ e n;have nsK:∀{b:ak} {m:Str->Option aA},s1.heap.Ns b m->(Fn s1.heap H).Ns b m:=fun{b m} ⟨o,es,ep,e,d,r⟩=>#[o,es,ep,Jc e (noD e d),d,r]
 have hM:Mod K mg (Fn s1.heap H):=#[fun b o e=>Jc (KX b o e) (nK b o e),nsK hns,#[mb,nsK hb,hbb],let⟨mc,h1,h2⟩:=abK;#[mc,nsK h1,h2]]
 have e0:Bv P w K mg (Fn s1.heap H) callerA [] s1 H:=#[rfl,hM,fun b o e=>SO e,jg (Mq _ _),trivial,fun b hb=>absurd (show b∈([]:List ak) from hb) `S',Uq,.of_eq hg]
 have hl:Bl.length=ps.length:=by rw[qy Re];exact fY
 refine mB ((F _ hM).run callerA [] s1 H #[Bl,[]] Bl (Bl.map EK) _ _ hr e0 (WJ s1 Bl hl) hV (BE H _ hOT Zr)) fun r s' x=>?_;cases r with
 |error e=>exact(hCX H e s' x).elim
 |ok fl=>
  cases fl with
  |next=>exact False.elim x
  |brk=>exact False.elim x
  |cont=>exact False.elim x
  |ret u=>
   obtain⟨v,H',os,bare,un,NJ,r',q⟩:=x;have kept:=fun b o e hm=>by
    cases q2:H b with
    |none=>exact un.keep b o e q2 (fun z=>absurd `gj' `S') `S'
    |some u2=>
     rcases hOT.2 b hm with z| ⟨ob,u3,z⟩
     ·rw[q2] at z;cases z
     ·have z2:=un.frzs b ob _ z;obtain⟨e1,_⟩:=Uq b _ z;obtain⟨e2,_⟩:=NJ b _ z2;rw[e] at e1;cases e1;exact e2
   have grown:∀t,t∈tabs.map (·.2)->∃ps,s'.heap.get? t=some (tabObj ps):=fun t ht=>by
    obtain⟨more,z⟩:=un.tbls t _ (hOT.1 t ht);exact#[_,NJ t _ z]
   have KX':=fun b o e=>kept b o (KX b o e) fun hm=>by
    show 173
   obtain⟨as,Wt⟩:=Dw.reads NJ KX' d0 v u q r';refine#[u,as,rfl,Wt,#[fun b o e=>?_,fun b o e=>?_],os,bare]
   ·show 125
    ·obtain⟨ps,z⟩:=grown b hm;obtain⟨qq,hq,rfl⟩:=aV.mp hm;have e2:=(hT qq hq).2;rw[e] at e2;cases e2;exact .inr (.inl #[((hT qq hq).1.tab (hT qq hq).2).isCodeTable,rfl,#[],ps,rfl,by rw[Array.empty_append];exact z])
    ·exact .inl (kept b o e hm)
   ·show 125
    ·obtain⟨ps,z⟩:=grown b hm;exact#[_,z]
    ·exact#[o,kept b o e hm]
abbrev Gu (bm:ak) (sl:Array `hN') (K:ai):ai:=(bm,#[.type "module",some builtinsNs,.plain,sl])::K
def G5 {r:OpenSpec} {k:Nat} {q:bN} {Jm:List Str} {XP:(Str->Option aA)->cZ->Prop} {YP:cV->cZ->Prop} {d:DefRec} {K:Params->ai} {CX:yx} {ps:List Str} {tabs:ai->List (ak×ak)} {sp:ai->Sp} {bm:ak}
 (Xi:r.wellSaid=true) (fY:r.args.length=ps.length) (hr:Room k callerA)
 (hY:∀(w:cV) (h:cZ),YP w h->(K w.params).In h) (hbm:∀p,nsIn (K p) mainGlobals "__builtins__"=some (some (.ref bm)))
 (Zq:∀(w:cV) (mg mb:Str->Option aA) (s0:aS) (h:cZ) (sl:Array (Option aA)),PySem.W.Ground q Jm [] XP w s0 mg mb h->(Gu bm sl (K w.params)).In h->TabsAt (tabs `fE') h) (hnT:∀p sl,noTabs (Gu bm sl (K p))=true)
 (F:∀(w:cV) (mg:Str->Option aA) (fa:ak) (h:cZ) (sl:Array (Option aA)),(Gu bm sl (K w.params)).In h->h.Ns mainGlobals mg->mg d.name=some (.ref fa)->
  ∃fd:aH,(∀(s:aS) (us:List aA),us.length=ps.length->BindsTo s fd `hZ' `fc')/\∀base:cZ,Mod `fE' mg base->bT r.prog w `fE' mg base CX k fa fd ps (sp `fE'))
 (BE:∀(K:ai) (H:Hp) (xs:List V) (a:Codec.denoteAll r.args),JN ((tabs K).map (·.2)) H->Codec.withinAll r.args a=true->Codec.app r.args r.asked a=true->ng K H xs (Codec.encAll r.args a)->
  sp K xs H (fun v H'=>Dw K H' v (r.ret.enc (Codec.app r.args r.f a))) fun _ _ _=>False)
 (hCX:∀(H:Hp) (s:aS) (e:aA) (s':aS),CX [] H s (fun _ _ _=>False) e s'->False):
 PySem.W.WalkOS q Jm XP YP r d [] (fun f vs=>PySem.call f vs):=by
 intro w s0 s1 mg mb G Y fa o pm cd doc dV kV hob hd xr hD Xx hg args Bl as abh xS Wt Re hlo;obtain⟨a,e1,e2⟩:=PySem.W.os_pre_some abh;obtain⟨e3,hwi⟩:=Codec.encAll_of_decAll r.args args a e1;subst e3;have K0:=hY w _ Y;obtain⟨b,⟨oc,od,odt,sl⟩,NM,_,hb3,hb4,hb5,hb6⟩:=G.T.bmain;have hb4:=hb4;have hb5:=hb5;have hb6:=hb6;subst hb4 hb5 hb6;rw[mg_of K0 G.T.g (hbm w.params)] at NM;cases NM;have KX:(Gu bm sl (K w.params)).In s1.heap:=fun c x e=>by
  rw[cy] at e;cases hq:c==bm with
  |true=>
   rw[hq] at e;cases e;rw[jC hq];exact hb3
  |false=>
   rw[hq] at e;exact K0 c x e
 obtain⟨fd,hbi,hF⟩:=F w mg fa _ sl KX G.T.g Xx;refine PySem.W.enter_call (mB (IV (R:=[]) (cl:=classAt s0.heap) (d0:=r.ret.enc (Codec.app r.args r.f a)) (Zq w mg mb s0 _ sl G KX) (hnT w.params sl) KX G.T.g G.T.b G.T.builtins G.T.nolimit hg Re (BJ _ _) (Ba xS) hr hF hbi (by rw[AZ];exact fY)
  (fun H xs hO hS=>BE _ H xs a hO hwi e2 hS) fun H e s'=>hCX H s1 e s') fun r' s' hq=>?_)
 obtain⟨u,as',rfl,h1,h2,h3,h4⟩:=hq;exact#[.inl #[u,_,as',rfl,fun _=>rfl,h1,(OpenSpec.post_iff Xi hwi _ _).mpr rfl,fun z=>noConfusion (z)],h2,h3,h4]
section
variable {prog:bN} {w:cV} {A:dY} {E:aA->aS->Prop} {s:aS}
def pQ {it t:ak} {i:Nat} {items} {x:aA} {Q:aA->aS->Prop} (qf:s.heap.IsTupleIter it t i) (hl:s.heap.IsTuple t items) (hx:items[i]? =some x)
 (hQ:∀h',h'.IsTupleIter it t (i+1)->Heap.SameBut it s.heap h'->Q x {s with heap:=h'}):wpAny `C' A (nextOf `ea') Q E s:=by
 show 195;refine ah (cX qf.typeIs iQ `d4');show 47;refine ah (pB ho hd `S' (aJ #[x,rfl,aJ (hQ _ ?_ (gG ..))]));exact#[_,dv _ ho `lw',(Obj.cls_mapFields ..).trans hc,by rw[l0 hd];simp[rawInt]]
def wD {it t:ak} {i:Nat} {items} {Q:aA->aS->Prop} (hh:A.handled=none) (qf:s.heap.IsTupleIter it t i) (hl:s.heap.IsTuple t items) (hx:items[i]? =none)
 (hE:∀h' e,ExtBut it s.heap h'->(∃o,h'.get? e=some o/\o.cls= .type "StopIteration")->E (.ref e) {s with heap:=h'}):wpAny `C' A (nextOf `ea') Q E s:=by
 show 195;unfold nextOf;refine ah (cX (name:=ofString "__next__") qf.typeIs iQ `d4');show 47;refine ah (lX (ah (pB ho hd `S' ?_)));refine ah ?_;simp only[newExc,newTuple];refine ah (eE ?_ `kX');refine ah (m:=firstArgMember _ _) (wpAny_of_eq (a:=Value.none) `hG' ?_);refine eE ?_ `kX';simp only[raiseNew];refine ah (wpAny_handled ?_)
 first|rw[show A.in1.handled=none from hh]|rw[hh]
 refine ah (aJ (wpAny_throw ?_));exact hE _ _ `lF' `mj'
abbrev Iu (h:cZ) (z TI TO:ak) (f0:aA) (f1:Bool):Prop:=h.get? z=some {cls:=.type "zip",dict:=none,data:=.fields (List.toArray [f0,.bool f1,.bool false,.ref TI,.ref TO]),slots:= #[]}
def Iz {z TI TO i1 i2 l1 l2:ak} {k1 k2:Nat} {xs ys:Array aA} {x y a b:aA} {Q:Option aA->aS->Prop} (D:ZipApart z TI TO i1 i2 l1 l2)
 (hz:IsZip s.heap z TI TO .none) (yC:IsPair s.heap TI `kO' `kP') (GF:IsPair s.heap TO a b)
 (h1:s.heap.IsTupleIter i1 l1 k1) (h2:s.heap.IsTupleIter i2 l2 k2) (rC:s.heap.IsTuple l1 xs) (tO:s.heap.IsTuple l2 ys) (hx:xs[k1]? =some x) (hy:ys[k2]? =some y)
 (hQ:∀h',IsZip h' z TI TO (rawInt s.heap.objs.size)->IsPair h' TO x y->h'.IsTupleIter i1 l1 (k1+1)->h'.IsTupleIter i2 l2 (k2+1)->IsPair h' s.heap.objs.size x y->h'.objs.size=s.heap.objs.size+1->
  (∀c o,c≠z->c≠TO->c≠i1->c≠i2->s.heap.get? c=some o->h'.get? c=some o)->Q (some `ai') {s with heap:=h'}):
 wpAny `C' A (pyNext `eD') Q E s:=by
 show 76
 show 29;refine ah ?_;unfold ownedTupleIsFree;show 37
 replace hz₁:IsZip h₁ z TI TO .ellipsis:=hz₁
 refine ah ?_;refine ah `iM';refine ah (pQ `mz' `mE' hx fun h₂ h1₂ hs₂=>aJ ?_);have hTO₂:IsPair h₂ TO a b:=hs₂.extBut _ _ D.TOi1 (hs₁.extBut _ _ D.TOz GF);refine ah (fh hTO₂ rfl ?_);refine ah (wpAny_updateSeq_pair hTO₂ fun h₃ hTO₃ hs₃=>?_)
 replace hTO₃:IsPair h₃ TO x b:=hTO₃
 refine ah (kJ `cS');refine ah `iM';refine ah (pQ (((h2.extBut hs₁.extBut D.i2z).extBut hs₂.extBut D.i12.symm).extBut hs₃.extBut D.TOi2.symm) (((tO.extBut hs₁.extBut D.l2z).extBut hs₂.extBut D.l2i1).extBut hs₃.extBut D.l2TO) hy fun h₄ h2₄ hs₄=>aJ ?_);have hTO₄:IsPair h₄ TO x b:=hs₄.extBut _ _ D.TOi2 hTO₃;refine ah (fh hTO₄ rfl ?_);refine ah (wpAny_updateSeq_pair hTO₄ fun h₅ hTO₅ hs₅=>?_)
 replace hTO₅:IsPair h₅ TO x y:=hTO₅
 refine ah (kJ (aJ `cS'));refine ah (fh hTO₅ rfl ?_);refine ah (wpAny_newTuple ?_);have hsz:h₅.objs.size=s.heap.objs.size:=by rw[hs₅.1,hs₄.1,hs₃.1,hs₂.1,hs₁.1]
 have hz₅:IsZip h₅ z TI TO .ellipsis:=hs₅.extBut _ _ D.TOz.symm (hs₄.extBut _ _ D.i2z.symm (hs₃.extBut _ _ D.TOz.symm `kG'));have hk₅:∀c o,c≠z->c≠TO->c≠i1->c≠i2->s.heap.get? c=some o->h₅.get? c=some o:=fun c o c1 c2 c3 c4 e=>hs₅.extBut _ _ c2 (hs₄.extBut _ _ c4 (hs₃.extBut _ _ c2 (hs₂.extBut _ _ c3 `fG')));have h1₅:h₅.IsTupleIter i1 l1 (k1+1):=((h1₂.extBut hs₃.extBut D.TOi1.symm).extBut hs₄.extBut D.i12).extBut hs₅.extBut D.TOi1.symm;have h2₅:h₅.IsTupleIter i2 l2 (k2+1):=h2₄.extBut hs₅.extBut D.TOi2.symm;have XX:z<h₅.objs.size:=a8 hz₅;refine ah ?_;unfold Builtin.SmallTypes.ownedTupleHandOut;have hz₆:IsZip (h₅.push {cls:=.type "tuple",data:=.seq `cZ'}) z TI TO .ellipsis:=ap _ hz₅;refine ah (iM hz₆ `S' fun h₇ hz₇ hs₇=>?_)
 replace hz₇:IsZip h₇ z TI TO (rawInt h₅.objs.size):=hz₇
 refine iM hz₇ `S' fun h₈ hz₈ hs₈=>?_
 replace hz₈:IsZip h₈ z TI TO (rawInt h₅.objs.size):=hz₈
 have up:∀c o,c≠z->h₅.get? c=some o->h₈.get? c=some o:=fun c o c1 e=>hs₈.extBut _ _ c1 (hs₇.extBut _ _ c1 (ap _ e));have hT₈:IsPair h₈ h₅.objs.size x y:=hs₈.extBut _ _ (gS XX) (hs₇.extBut _ _ (gS XX) `f3');have ZC:h₈.objs.size=h₅.objs.size+1:=by rw[hs₈.1,hs₇.1,b8]
 rw[hsz] at hz₈ hT₈ ZC;refine aJ #[_,rfl,aJ ?_];show Q (some (.ref h₅.objs.size)) _;rw[hsz];exact hQ h₈ hz₈ (up _ _ D.TOz hTO₅) (h1₅.at fun o e=>up _ o D.i1z e) (h2₅.at fun o e=>up _ o D.i2z e) hT₈ ZC fun c o c1 c2 c3 c4 e=>up c o c1 (hk₅ c o c1 c2 c3 c4 e)
def CM {z TI TO T:ak} {f:Bool} {oT:Obj} {Q:Bool->aS->Prop} (hz:Iu s.heap z TI TO `jm' f) (hT:s.heap.get? T=some oT) (hQ:∀h',Iu h' z TI TO `jm' true->Heap.SameBut z s.heap h'->Q false {s with heap:=h'}):
 wpAny `C' A (ownedTupleIsFree `eD') Q E s:=by
 refine ah (dw hz rfl (x:=rawInt T) rfl ?_);show wpAny _ _ (loadIfAlive ((T:Int).toNat) >>= _) _ _ _;rw[bL];refine ah (PySem.W.kdx_alive hT ?_);refine ah (dw hz rfl (x:=.bool f) rfl ?_);cases f with
 |true=>
  rw[au (show ¬((Value.bool true != Value.bool true)=true) from c8)];exact aJ (hQ s.heap hz (Heap.SameBut.refl _ _))
 |false=>
  rw[aD (show(Value.bool false != Value.bool true)=true from rfl)];exact ah (iM hz `S' fun h₃ he₃ hs₃=>aJ (hQ h₃ he₃ hs₃))
def IA {z TI TO T i1 i2 l1 l2:ak} {f:Bool} {oT:Obj} {k1 k2:Nat} {xs ys:Array aA} {x y:aA} {Q:Option aA->aS->Prop} (D:ZipApart z TI TO i1 i2 l1 l2)
 (hz:Iu s.heap z TI TO `jm' f) (Bi:s.heap.get? T=some oT) (yC:IsPair s.heap TI `kO' `kP')
 (h1:s.heap.IsTupleIter i1 l1 k1) (h2:s.heap.IsTupleIter i2 l2 k2) (rC:s.heap.IsTuple l1 xs) (tO:s.heap.IsTuple l2 ys) (hx:xs[k1]? =some x) (hy:ys[k2]? =some y)
 (hQ:∀h',Iu h' z TI TO `jm' true->h'.IsTupleIter i1 l1 (k1+1)->h'.IsTupleIter i2 l2 (k2+1)->IsPair h' s.heap.objs.size x y->h'.objs.size=s.heap.objs.size+1->
  (∀c o,c≠z->c≠i1->c≠i2->s.heap.get? c=some o->h'.get? c=some o)->Q (some `ai') {s with heap:=h'}):
 wpAny `C' A (pyNext `eD') Q E s:=by
 show 76
 show 29;refine ah `kF';simp only[l7,pC];refine ah (ah (ah (eS ?_)));show wpAny _ _ (nextOf `kO' >>= _) _ _ _;refine ah (pQ `mz' `mE' hx fun h₂ h1₂ hs₂=>aJ `cS');refine ah (ah (eS ?_));show wpAny _ _ (nextOf `kP' >>= _) _ _ _;refine ah (pQ ((h2.extBut hs₁.extBut D.i2z).extBut hs₂.extBut D.i12.symm) ((tO.extBut hs₁.extBut D.l2z).extBut hs₂.extBut D.l2i1) hy fun h₃ h2₃ hs₃=>aJ (aJ `cS'));refine ah (wpAny_newTuple (hsz:=show 2<=sizeLine by decide) ?_);have hsz:h₃.objs.size=s.heap.objs.size:=by rw[hs₃.1,hs₂.1,hs₁.1]
 have up:∀c o,c≠z->c≠i1->c≠i2->s.heap.get? c=some o->(h₃.push {cls:=.type "tuple",data:=.seq `cZ'}).get? c=some o:=fun c o c1 c2 c3 e=>ap _ (hs₃.extBut _ _ c3 (hs₂.extBut _ _ c2 `fG'));have hz₃:Iu (h₃.push {cls:=.type "tuple",data:=.seq `cZ'}) z TI TO `jm' true:=ap _ (hs₃.extBut _ _ D.i2z.symm `kG');have hT₃:IsPair (h₃.push {cls:=.type "tuple",data:=.seq `cZ'}) h₃.objs.size x y:=a7 _ rfl;have h1₃:=(h1₂.extBut hs₃.extBut D.i12).at fun o e=>ap {cls:=.type "tuple",data:=.seq `cZ'} e;have h2₄:=h2₃.at fun o e=>ap {cls:=.type "tuple",data:=.seq `cZ'} e;have ZC:(h₃.push {cls:=.type "tuple",data:=.seq `cZ'}).objs.size=h₃.objs.size+1:=b8 ..;rw[hsz] at hT₃ ZC;refine aJ #[_,rfl,aJ ?_];show Q (some (.ref h₃.objs.size)) _;rw[hsz];exact hQ _ hz₃ h1₃ h2₄ hT₃ ZC up
def Ms {z TI TO T i1 i2 l1 l2:ak} {f:Bool} {oT:Obj} {k1:Nat} {xs:Array aA} {Q:Option aA->aS->Prop} (hh:A.handled=none) (D:ZipApart z TI TO i1 i2 l1 l2)
 (hz:Iu s.heap z TI TO `jm' f) (Bi:s.heap.get? T=some oT) (yC:IsPair s.heap TI `kO' `kP') (h1:s.heap.IsTupleIter i1 l1 k1) (rC:s.heap.IsTuple l1 xs) (hx:xs[k1]? =none)
 (hQ:∀h',(∀c o,c≠z->c≠i1->s.heap.get? c=some o->h'.get? c=some o)->Q none {s with heap:=h'}):wpAny `C' A (pyNext `eD') Q E s:=by
 show 76
 show 65;refine ah `kF';refine ah (ah (ah (eS ?_)));refine ah `dk';obtain⟨o,ho,hc⟩:=he;refine ah (`og' #[o,ho,hc] isSubtype_stop ?_);exact aJ (hQ _ fun c o c1 c2 e=>hs₂ _ _ c2 `fG')
def Lr {z TI TO i1 i2 l1 l2:ak} {k1:Nat} {xs:Array aA} {Q:Option aA->aS->Prop} (hh:A.handled=none) (D:ZipApart z TI TO i1 i2 l1 l2)
 (hz:IsZip s.heap z TI TO .none) (yC:IsPair s.heap TI `kO' `kP') (h1:s.heap.IsTupleIter i1 l1 k1) (rC:s.heap.IsTuple l1 xs) (hx:xs[k1]? =none)
 (hQ:∀h',(∀c o,c≠z->c≠i1->s.heap.get? c=some o->h'.get? c=some o)->Q none {s with heap:=h'}):wpAny `C' A (pyNext `eD') Q E s:=by
 show 76
 show 65;refine ah ?_;show 37
 replace hz₁:IsZip h₁ z TI TO .ellipsis:=hz₁
 refine ah ?_;refine ah `iM';refine ah `dk';obtain⟨oe,hoe,hce⟩:=he;have hz₂:IsZip h₂ z TI TO .ellipsis:=hs₂ _ _ D.i1z.symm hz₁;have hez:e≠z:=fun x=>by subst x;rw[hz₂] at hoe;cases hoe;simp at hce
 refine iM hz₂ `S' fun h₃ _ hs₃=>?_;refine ah (`og' #[oe,hs₃.extBut _ _ hez hoe,hce] isSubtype_stop ?_);exact aJ (hQ _ fun c o c1 c2 e=>hs₃.extBut _ _ c1 (hs₂ _ _ c2 `fG'))
abbrev Sf (h:cZ) (l1:ak):cZ:=h.push {cls:=.type "tuple_iterator",data:=.fields `lv'}
abbrev zT2 (h:cZ) (l1 l2:ak):cZ:=(Sf h l1).push {cls:=.type "tuple_iterator",data:=.fields (List.toArray [.ref l2,.int 0 0])}
abbrev zT3 (h:cZ) (l1 l2:ak):cZ:=(zT2 h l1 l2).push {cls:=.type "tuple",data:=.seq (List.toArray [.ref h.objs.size,.ref (Sf h l1).objs.size])}
abbrev zT4 (h:cZ) (l1 l2:ak):cZ:=(zT3 h l1 l2).push {cls:=.type "tuple",data:=.seq (List.toArray [.none,.none])}
abbrev Vf (h:cZ) (l1 l2:ak):cZ:=(zT4 h l1 l2).push {cls:=.type "zip",data:=.fields (List.toArray [.none,.bool false,.bool false,.ref (zT2 h l1 l2).objs.size,.ref (zT3 h l1 l2).objs.size])}
def HI (l1 l2:ak) (xs ys:Array aA):
 Meets (Builtin.«zip.__new__» #[[.type "zip",.ref l1,.ref l2],[]]) (fun _ R s=>s.heap.IsTuple l1 xs/\s.heap.IsTuple l2 ys/\R (.ok (.ret (.ref (zT4 s.heap l1 l2).objs.size))) {s with heap:=Vf s.heap l1 l2}):=
 .of_wp fun prog w A R s h=>by
  obtain⟨hp,g,d,tk,os⟩:=s;obtain⟨rC,tO,h⟩:=h;have abJ:=sub_zip;have hL1:=rC;have hL2:Heap.IsTuple (Shared.heap #[hp.push {cls:=.type "tuple_iterator",data:=.fields `lv'},g,d,tk,os]) l2 ys:=Heap.IsTuple.push tO _
  wp_walk using iN hL1,iN hL2
  exact `f0'
def Ln {l1 l2:ak} {xs ys:Array aA} {Q:aA->aS->Prop} (rC:s.heap.IsTuple l1 xs) (tO:s.heap.IsTuple l2 ys)
 (h:∀h',IsZip h' (s.heap.objs.size+4) (s.heap.objs.size+2) (s.heap.objs.size+3) .none->IsPair h' (s.heap.objs.size+2) `ai' (.ref `i')->IsPair h' (s.heap.objs.size+3) .none .none->
  h'.IsTupleIter s.heap.objs.size l1 0->h'.IsTupleIter `i' l2 0->h'.objs.size=s.heap.objs.size+5->(∀c o,s.heap.get? c=some o->h'.get? c=some o)->Q (.ref (s.heap.objs.size+4)) {s with heap:=h'}):
 wpAny `C' A (call (.type "zip") [.ref l1,.ref l2]) Q E s:=by
 refine callType_new F.called_zip `KK (F.typeCall_zip_2 _ _) (F.newCall_zip_2 _ _) (fun obj=>F.args_object_init_3 obj _ _) F.entry_zip_new (HI l1 l2 xs ys) #[rC,tO,?_];have z1:(Sf s.heap l1).objs.size=s.heap.objs.size+1:=b8 ..;have z2:(zT2 s.heap l1 l2).objs.size=s.heap.objs.size+2:=by rw[b8,z1]
 have z3:(zT3 s.heap l1 l2).objs.size=s.heap.objs.size+3:=by rw[b8,z2]
 have z4:(zT4 s.heap l1 l2).objs.size=s.heap.objs.size+4:=by rw[b8,z3]
 have z5:(Vf s.heap l1 l2).objs.size=s.heap.objs.size+5:=by rw[b8,z4]
 have g5:(Vf s.heap l1 l2).get? (zT4 s.heap l1 l2).objs.size=some _:=a7 _ rfl;have g4:(Vf s.heap l1 l2).get? (zT3 s.heap l1 l2).objs.size=some _:=ap _ `f3';have g3:(Vf s.heap l1 l2).get? (zT2 s.heap l1 l2).objs.size=some _:=ap _ (ap _ `f3');have g2:(Vf s.heap l1 l2).get? (Sf s.heap l1).objs.size=some _:=ap _ (ap _ (ap _ `f3'));have g1:(Vf s.heap l1 l2).get? s.heap.objs.size=some _:=ap _ (ap _ (ap _ (ap _ `f3')));show _/\_;rw[z2,z3,z4] at g5;rw[z1,z2] at g3;rw[z3] at g4;rw[z1] at g2;rw[z4];exact#[#[_,g5,rfl],h _ g5 g3 g4 #[_,g1,rfl,rfl] #[_,g2,rfl,rfl] z5 fun c o x=>ap _ (ap _ (ap _ (ap _ (ap _ x))))]
end
structure VT (h:cZ) (z TI TO i1 i2 l1 l2 S:ak) (xs ys:Array aA) (i:Nat):Prop where
 z:IsZip h z TI TO .none\/∃(T:ak) (f:Bool) (oT:Obj),Iu h z TI TO `jm' f/\h.get? T=some oT/\T≠z/\T≠TO/\T≠i1/\T≠i2/\T≠S
 TI:IsPair h TI `kO' `kP'
 TO:∃a b,IsPair h TO a b
 i1:h.IsTupleIter i1 l1 i
 i2:h.IsTupleIter i2 l2 i
 l1:h.IsTuple l1 xs
 l2:h.IsTuple l2 ys
def IsTuple.at {h h':cZ} {a:ak} {xs:Array aA} (x:h.IsTuple a xs) (e:∀o,h.get? a=some o->h'.get? a=some o):h'.IsTuple a xs:=let⟨o,ho,r⟩:=x;#[o,e _ ho,r]
section
variable {prog:bN} {w:cV} {A:dY} {E:aA->aS->Prop} {s:aS}
def N4 {h h':cZ} {z TI TO i1 i2 l1 l2 S:ak} {xs ys:Array aA} {i:Nat} (st:VT h z TI TO i1 i2 l1 l2 S xs ys i) (k:∀b o,b≠S->h.get? b=some o->h'.get? b=some o) (hS:S≠z/\S≠TI/\S≠TO/\S≠i1/\S≠i2/\S≠l1/\S≠l2):VT h' z TI TO i1 i2 l1 l2 S xs ys i:=by
 obtain⟨s1,s2,s3,s4,s5,s6,s7⟩:=hS;refine#[?_,k _ _ s2.symm st.TI,?_,st.i1.at fun o e=>k _ o s4.symm e,st.i2.at fun o e=>k _ o s5.symm e,IsTuple.at st.l1 fun o e=>k _ o s6.symm e,IsTuple.at st.l2 fun o e=>k _ o s7.symm e]
 ·rcases st.z with e| ⟨T,f,oT,e,hT,n1,n2,n3,n4,n5⟩
  ·exact .inl (k _ _ s1.symm e)
  ·exact .inr #[T,f,oT,k _ _ s1.symm e,k _ _ n5 hT,n1,n2,n3,n4,n5]
 ·obtain⟨a,b,e⟩:=st.TO;exact#[a,b,k _ _ s3.symm e]
def OE {z TI TO i1 i2 l1 l2 S:ak} {xs ys:Array aA} {i:Nat} {x y:aA} {Q:Option aA->aS->Prop} (D:ZipApart z TI TO i1 i2 l1 l2) (st:VT s.heap z TI TO i1 i2 l1 l2 S xs ys i) (hS:S<s.heap.objs.size) (hx:xs[i]? =some x) (hy:ys[i]? =some y)
 (hQ:∀h',VT h' z TI TO i1 i2 l1 l2 S xs ys (i+1)->IsPair h' s.heap.objs.size x y->(∀c o,c∉[z,TI,TO,i1,i2]->s.heap.get? c=some o->h'.get? c=some o)->Q (some `ai') {s with heap:=h'}):
 wpAny `C' A (pyNext `eD') Q E s:=by
 obtain⟨hz,yC,⟨a,b,GF⟩,h1,h2,rC,tO⟩:=st;have lz:z<s.heap.objs.size:=by
  rcases hz with e| ⟨_,_,_,e,_⟩
  ·exact a8 e
  ·exact a8 e
 have lO:=a8 GF;have l1:i1<s.heap.objs.size:=by obtain⟨_,e,_⟩:=h1;exact a8 e
 have l2:i2<s.heap.objs.size:=by obtain⟨_,e,_⟩:=h2;exact a8 e
 rcases hz with e| ⟨T,f,oT,e,hT,n1,n2,n3,n4,n5⟩
 ·refine Iz D e yC GF h1 h2 rC tO hx hy fun h' a1 a2 a3 a4 a5 a6 k=>hQ h' #[.inr #[_,false,_,a1,a5,gS lz,gS lO,gS l1,gS l2,gS hS],k _ _ D.TIz D.TITO D.TIi1 D.TIi2 yC,#[_,_,a2],a3,a4,IsTuple.at rC fun o e=>k _ o D.l1z D.l1TO D.l1i1 D.l1i2 e,IsTuple.at tO fun o e=>k _ o D.l2z D.l2TO D.l2i1 D.l2i2 e] a5 fun c o hc q=>k c o `an' `an' `an' `an' q
 ·refine IA D e hT yC h1 h2 rC tO hx hy fun h' a1 a3 a4 a5 a6 k=>hQ h' #[.inr #[T,true,_,a1,k _ _ n1 n3 n4 hT,n1,n2,n3,n4,n5],k _ _ D.TIz D.TIi1 D.TIi2 yC,#[_,_,k _ _ D.TOz D.TOi1 D.TOi2 GF],a3,a4,IsTuple.at rC fun o e=>k _ o D.l1z D.l1i1 D.l1i2 e,IsTuple.at tO fun o e=>k _ o D.l2z D.l2i1 D.l2i2 e] a5 fun c o hc q=>k c o `an' `an' `an' q
def Pt {z TI TO i1 i2 l1 l2 S:ak} {xs ys:Array aA} {i:Nat} {Q:Option aA->aS->Prop} (hh:A.handled=none) (D:ZipApart z TI TO i1 i2 l1 l2) (st:VT s.heap z TI TO i1 i2 l1 l2 S xs ys i) (hx:xs[i]? =none)
 (hQ:∀h',(∀c o,c∉[z,TI,TO,i1,i2]->s.heap.get? c=some o->h'.get? c=some o)->Q none {s with heap:=h'}):wpAny `C' A (pyNext `eD') Q E s:=by
 obtain⟨hz,yC,⟨a,b,GF⟩,h1,h2,rC,tO⟩:=st;rcases hz with e| ⟨T,f,oT,e,hT,n1,n2,n3,n4,n5⟩
 ·exact Lr hh D e yC h1 rC hx fun h' k=>hQ h' fun c o hc q=>k c o `an' `an' q
 ·exact Ms hh D e hT yC h1 rC hx fun h' k=>hQ h' fun c o hc q=>k c o `an' `an' q
def L7 {r:ak} (hT:s.TypeIs `bd' "zip") {Q:Bool->aS->Prop} (h:Q true s):wpAny `C' A (Builtin.List.listLengthHint `bd') Q E s:=by
 refine ah `dA';refine wpAny_ite_split (fun K1=>absurd K1 `BT) `jB';refine wpAny_ite_split (fun K1=>absurd K1 `KK) `jB';refine ah `dA';exact aJ h
end
section
variable {X:Cx} {pins:List (ak×Obj)} {σ:St}
def lp (H:Hp) (ts:List ak) (ps:List (V×V)):Prop:=Paired (fun t (p:V×V)=>H t=some (.tup [p.1,p.2])) ts ps
def lp.mono {H H':Hp} (k:∀b xs,H b=some `cd'->H' b=some `cd'):∀{ts:List ak} {ps:List (V×V)},lp H ts ps->lp H' ts ps
 |_,_,.nil=>.nil
 |_,_,.cons h t=>.cons (k _ _ h) (lp.mono k t)
def Ad {H:Hp} {t:ak} {p:V×V} (h:H t=some (.tup [p.1,p.2])):∀{ts:List ak} {ps:List (V×V)},lp H ts ps->lp H (ts++[t]) (ps++[p])
 |_,_,.nil=>.cons h .nil
 |_,_,.cons h' t'=>.cons h' (Ad h t')
def Cn {x:V} {u:aA} (r:ff x u):∀{xs:List V} {us:List aA},dy xs us->dy (xs++[x]) (us++[u])
 |_,_,.nil=>.cons r .nil
 |_,_,.cons h t=>.cons h (Cn r t)
def Lj {A:dY} (hA:A.handled=none) {S z TI TO i1 i2 l1 l2:ak} (D:ZipApart z TI TO i1 i2 l1 l2) (hS:S≠z/\S≠TI/\S≠TO/\S≠i1/\S≠i2/\S≠l1/\S≠l2) {xs ys:List V} {XW Zp:List aA} (rx:dy xs XW) (ry:dy ys Zp) (fY:xs.length=ys.length) (hn:xs.length<sizeLine) (QI:aA) {R:Result->aS->Prop} {H0:Hp}
 (hR:∀s' H' ts,cB X pins σ H' s'->(∀b o,b≠S->H0 b=some o->H' b=some o)->H' S=some `eC'->lp H' ts (xs.zip ys)->R (.ok (.ret QI)) s'):
 ∀(k i:Nat) (s:aS) (H:Hp) (ts:List ak),xs.length - i=k->i<=xs.length->cB X pins σ H s->(∀b∈[z,TI,TO,i1,i2],vJ X pins H b)->VT s.heap z TI TO i1 i2 l1 l2 S XW.toArray Zp.toArray i->(∀b o,b≠S->H0 b=some o->H b=some o)->
  H S=some `eC'->lp H ts ((xs.zip ys).take i)->codeAny `Tm A (.builtin "list.extend.loop" #[[.ref S,.ref z,QI],[]]) R s:=by
 intro k
 induction k with
 |zero=>
  intro i s H ts hk hi I hf st Er Wi hP;have GM:i=xs.length:=by omega
  subst GM;refine on PySem.F.entry_extend_loop ?_;rw[kQ i0 _];refine ah (Pt (hA) D st (by rw[rx.length];simp) fun h' KW=>aJ (hR _ H ts (I.turnedL KW hf) Er Wi ?_))
  rwa [cS (by rw[i9];omega)] at hP
 |succ k ih=>
  intro i s H ts hk hi I hf st Er Wi hP;have jB:i<xs.length:=by omega
  have abI:i<ys.length:=by omega
  obtain⟨u,hu,ru⟩:=rx.get (ao jB);obtain⟨u2,hu2,ru2⟩:=ry.get (ao abI);have XH:ts.length=i:=by
   have:=bH hP;rw[be,i9] at this;omega
  obtain⟨hz0,its,n0,rv,hSh⟩:=I.hok S _ Wi;have hSl:=a8 hSh;refine on PySem.F.entry_extend_loop ?_;rw[kQ i0 _];refine ah (OE D st hSl `fm' (by simpa using hu2) fun h' Bh hT KW=>?_);have Wv:=I.hok.fresh (ax _);have I1:cB X pins σ `dS' {s with heap:=h'}:=I.turnedNew KW hf (ax _) #[by show 2<=sizeLine;decide,[u,u2],.cons ru (.cons ru2 .nil),#[_,hT,rfl,_,rfl]];have Zr:=cF hSl;have Wh:`dS' S=some `eC':=by rw[aZ Zr];exact Wi
  obtain⟨hz1,XZ,n1,rv1,W1⟩:=I1.hok S _ Wh;have hsz:XZ.length=i:=by rw[<-rv1.length,ae,XH]
  have up:∀b o,b≠S->h'.get? b=some o->(h'.update S (mapSeq (·.push `gN'))).get? b=some o:=fun b o hb e=>(dc _ _ (je hb)).trans e;have Rg:=dv (mapSeq (·.push `gN')) W1 rfl;refine ah ?_;have I2:cB X pins σ (bO `dS' S (.lst ((ts++[s.heap.objs.size]).map V.ref))) {s with heap:=h'.update S (mapSeq (·.push `gN'))}:=
   I1.write (by rw[Wh];exact trivial) `a8' up #[_,Rg] #[by rw[ae,aE,XH];show i+1<=sizeLine;omega,XZ++[Value.ref s.heap.objs.size],_,by rw[bj];exact Cn (x:=.ref _) rfl rv1,Rg.trans (by rw[<-List.push_toArray];rfl)]
  refine i7 W1 rfl (aJ #[lK i0 _,ih (i+1) _ _ (ts++[s.heap.objs.size]) `mt jB I2 (fun b hb=>?_) (N4 Bh up hS) (fun b o hb e=>?_) aq ?_]) `hp' `hp'
  ·obtain⟨f1,f2⟩:=hf b hb;refine#[?_,f2];have hbl:b<s.heap.objs.size:=by
    obtain⟨hz,yC,⟨a,b',GF⟩,h1,h2,rC,tO⟩:=st;show 228
    rcases e' with q|q|q|q|q
    ·rw[q];rcases hz with e| ⟨_,_,_,e,_⟩
     ·exact a8 e
     ·exact a8 e
    ·rw[q];exact a8 yC
    ·rw[q];exact a8 GF
    ·rw[q];obtain⟨_,e,_⟩:=h1;exact a8 e
    ·rw[q];obtain⟨_,e,_⟩:=h2;exact a8 e
   have Nb:b≠S:=fun q=>by rw[q,Wi] at f1;cases f1
   rw[aZ Nb,aZ (cF hbl)];exact f1
  ·rw[aZ hb];have:=Er b o hb e;rw[aZ (fun q=>by rw[q,Wv] at this;cases this)];exact this
  ·rw[kN,show(xs.zip ys)[i]? =some (xs[i],ys[i]) by rw[ao (by rw[i9];omega),List.getElem_zip]];refine Ad (by rw[aZ (je Zr),aq]) (lp.mono (fun b ws e=>?_) hP);rw[aZ (fun q=>by rw[q,Wi] at e;cases e),aZ (fun q=>by rw[q,Wv] at e;cases e)];exact e
def K5 (u6:X.calm=true) {z TI TO i1 i2 l1 l2:ak} {H:Hp} {s:aS} {Q:VK} (I:cB X pins σ H s) (D:ZipApart z TI TO i1 i2 l1 l2) (hz:IsZip s.heap z TI TO .none) (yC:IsPair s.heap TI `kO' `kP') (GF:∃a b,IsPair s.heap TO a b) (h1:s.heap.IsTupleIter i1 l1 0) (h2:s.heap.IsTupleIter i2 l2 0)
 (hf:∀b∈[z,TI,TO,i1,i2],vJ X pins H b) {xs ys:List V} (rC:H l1=some `cd') (tO:H l2=some `eb') (fY:xs.length=ys.length) (hn:xs.length<sizeLine)
 (q:∀l H' ts,H l=none->aM H H'->H' l=some `eC'->lp H' ts (xs.zip ys)->Q `cp' H'):wpAny `Tm X.A (call (.type "list") [.ref z]) `bg' X.xe s:=by
 obtain⟨_,XW,rx,p1⟩:=I.hok l1 _ rC;obtain⟨_,Zp,ry,p2⟩:=I.hok l2 _ tO;refine callType_codes (Q₁:=fun obj s₁=>obj= .ref s.heap.objs.size/\s₁={s with heap:=s.heap.push {cls:=.type "list",data:=.seq #[]}}) PySem.F.called_list (PySem.F.typeCall_list_1 _) PySem.F.entry_list_init (code_list_new _ `hI') fun obj s₁ h₁=>?_;obtain⟨rfl,rfl⟩:=h₁;have kp:∀b o,s.heap.get? b=some o->(s.heap.push {cls:=.type "list",data:=.seq #[]}).get? b=some o:=fun b o e=>ap _ e;have hS:(s.heap.push {cls:=.type "list",data:=.seq #[]}).get? s.heap.objs.size=some {cls:=.type "list",data:=.seq #[]}:=a7 _ rfl;have hS0:=I.hok.fresh (ax _);have lt:∀{b:ak} {o:Obj},s.heap.get? b=some o->s.heap.objs.size≠b:=fun e=>gS (a8 e);obtain⟨a0,b0,GF⟩:=GF;have lH:s.heap.objs.size≠z/\s.heap.objs.size≠TI/\s.heap.objs.size≠TO/\s.heap.objs.size≠i1/\s.heap.objs.size≠i2/\s.heap.objs.size≠l1/\s.heap.objs.size≠l2:=
  #[lt hz,lt yC,lt GF,by obtain⟨_,e,_⟩:=h1;exact lt e,by obtain⟨_,e,_⟩:=h2;exact lt e,by obtain⟨_,e,_⟩:=p1;exact lt e,by obtain⟨_,e,_⟩:=p2;exact lt e]
 have st0:VT s.heap z TI TO i1 i2 l1 l2 s.heap.objs.size XW.toArray Zp.toArray 0:=#[.inl hz,yC,#[_,_,GF],h1,h2,p1,p2]
 refine#[#[_,hS,rfl],PySem.F.args_list_init_2 _ _,?_];refine ah ?_;refine ah (fh hS rfl `cS');refine ah (i7 hS rfl ?_);refine ah (kJ ?_);have XE:∀b o,s.heap.get? b=some o->((s.heap.push {cls:=.type "list",data:=.seq #[]}).update s.heap.objs.size `fS').get? b=some o:=fun b o e=>(dc _ _ (lt e)).trans (kp _ _ e);have Wh:=dv `fS' hS rfl;generalize (s.heap.push {cls:=.type "list",data:=.seq #[]}).update s.heap.objs.size `fS'=CP at XE Wh⊢
 refine ah (wpAny_typeOf #[_,XE _ _ hz,rfl] ?_);have g1:listSameRef `ai' `eD'=false:=by simp[listSameRef,lH.1]
 have g2:(Value.type "zip"==Value.type "list")=false:=by decide
 have g3:(Value.type "zip"==Value.type "tuple")=false:=by decide
 simp only[g1,g2,g3,Bool.or_false,l7,pC];refine ah (wpAny_pyIter_zip (f0:=.none) (XE _ _ hz) ?_);refine ah (eS (L7 #[_,XE _ _ hz,rfl] ?_));refine ah (lX ?_);refine ah ?_;refine ah (i7 Wh rfl ?_);have hS3:=dv (mapSeq (·.push Value.none)) Wh rfl;refine i7 hS3 rfl ?_;have hS4:=dv (mapSeq (·.pop)) hS3 rfl;have CO:∀b o,s.heap.get? b=some o->((CP.update s.heap.objs.size (mapSeq (·.push Value.none))).update s.heap.objs.size (mapSeq (·.pop))).get? b=some o:=fun b o e=>(dc _ _ (lt e)).trans ((dc _ _ (lt e)).trans (XE _ _ e));have Tg:∃n,((CP.update s.heap.objs.size (mapSeq (·.push Value.none))).update s.heap.objs.size (mapSeq (·.pop))).get? s.heap.objs.size=some {cls:=.type "list",data:=.seq #[] n}:=#[_,hS4]
 generalize (CP.update s.heap.objs.size (mapSeq (·.push Value.none))).update s.heap.objs.size (mapSeq (·.pop))=Ey at CO Tg⊢
 obtain⟨nS,Tg⟩:=Tg;have I1:cB X pins σ (bO H s.heap.objs.size `bo') {s with heap:=Ey}:=I.laid CO (ax _) #[aN _,[],nS,.nil,Tg];refine aJ #[lK i0 _,Lj (H0:=H) (A:=X.A.in1) (I.ok.hd u6) D lH rx ry fY hn .none (fun s' H' ts I' hk hl hp=>?_) _ 0 _ _ [] rfl (aN _) I1 (fun b hb=>?_) #[?_,?_,?_,?_,?_,?_,?_] (fun b o hb e=>?_) aq .nil]
 ·exact#[rfl,.ref _,H',I',rfl,q _ H' ts hS0 (fun b o e=>hk b o (fun z=>by rw[z,hS0] at e;cases e) e) hl hp]
 ·obtain⟨f1,f2⟩:=hf b hb;show 228
  refine#[?_,f2];rw[aZ ?_]
  ·exact f1
  ·rcases e' with w|w|w|w|w
   ·rw[w];exact lH.1.symm
   ·rw[w];exact lH.2.1.symm
   ·rw[w];exact lH.2.2.1.symm
   ·rw[w];exact lH.2.2.2.1.symm
   ·rw[w];exact lH.2.2.2.2.1.symm
 ·exact .inl (CO _ _ hz)
 ·exact CO _ _ yC
 ·exact#[_,_,CO _ _ GF]
 ·exact h1.at fun o e=>CO _ o e
 ·exact h2.at fun o e=>CO _ o e
 ·exact IsTuple.at p1 fun o e=>CO _ o e
 ·exact IsTuple.at p2 fun o e=>CO _ o e
 ·rw[aZ hb];exact e
def Vs (ta:TA):TE:=fun σ H Q=>ta σ H fun vs H1=>∃(a b:ak) (xs ys:List V),vs=[.ref a,.ref b]/\H1 a=some `cd'/\H1 b=some `eb'/\xs.length=ys.length/\xs.length<sizeLine/\∀l H' ts,H1 l=none->aM H1 H'->H' l=some `eC'->lp H' ts (xs.zip ys)->Q `cp' H'
def FW {p p2 pos Bo:Pos} {e e2:Expr} {ta:TA} (u6:X.calm=true) (Rm:Gl X "list") (Tr:X.mg "list"=none) (hgz:Gl X "zip") (hmz:X.mg "zip"=none) (ha:PA X [e,e2] ta) (hs:starEach [e,e2] X.env=(false,eval e X.env)::starEach [e2] X.env:=by rfl) (sI:(backTo Bo (starEach [e2] X.env)).any (·.1)=false:=by rfl)
 (Jo:starEach `kb' X.env=[(false,eval (.Call (.Name "zip" p2) [e,e2] [] Bo) X.env)]:=by rfl):PE X (.Call (.Name "list" p) `kb' [] pos) (Vs ta):=by
 show 3;show 135;refine Call_ (mT I hgz hmz Mo (b7 (iH (ha Bo pins s σ H _ I h) fun us s1 ⟨vs,H1,I1,r1,a,b,xs,ys,ev,h1,h2,fY,hn,q⟩=>?_) hs sI));subst ev;cases r1 with
 |cons r rr=>
  cases rr with
  |cons r' rr=>
   cases rr;cases r;cases r';obtain⟨_,XW,rx,p1⟩:=I1.hok a _ h1;obtain⟨_,Zp,ry,p2⟩:=I1.hok b _ h2;refine Ln p1 p2 fun h' hz yC GF hi1 hi2 hsz hk=>kD ?_;show 196;refine K5 u6 I2 (PySem.W.ktu_apart s1.heap.objs.size a b p1.lt p2.lt) hz yC #[_,_,GF] hi1 hi2 (fun c QO=>?_) h1 h2 fY hn q;have e':c=s1.heap.objs.size+4\/c=s1.heap.objs.size+2\/c=s1.heap.objs.size+3\/c=s1.heap.objs.size\/c=s1.heap.objs.size+1:=by simpa using QO
   have Ew:s1.heap.objs.size<=c:=by
    rcases e' with z|z|z|z|z
    ·show 188
    ·show 188
    ·show 188
    ·rw[z];exact ax _
    ·show 188
   exact I1.fpOk Ew `mt'
end
def Qc {prog:bN} {w:cV} {A:dY} (hh:A.handled=none) (it l:ak) (lH:l≠it) (items:Array aA):
 Draws prog w A it [it,l] items.size (fun i v=>items[i]? =some v) (fun i h=>h.IsTupleIter it l i/\h.IsTuple l items) where
 live:=fun _ _ st=>let⟨o,ho,_⟩:=st.1;#[o,ho]
 frame:=fun _ _ _ st hk=>#[st.1.at fun o e=>hk it `S' o e,IsTuple.at st.2 fun o e=>hk l `S' o e]
 item:=fun i s Q E hi st hQ=>by
  refine pQ st.1 st.2 (x:=items[i]) (by simp[hi]) fun h' Ep KP=>?_;exact hQ _ h' s.toks (by simp[hi]) #[Ep,st.2.extBut KP.extBut lH] KP
 done:=fun s Q E st hE=>wD hh st.1 st.2 `S' hE
def Ge (l:ak) (items:Array aA) (n:Nat) (dct:Option ak) (sl:Array `hN'):
 Meets (Builtin.«enumerate.__new__» ⟨[.type "enumerate",.ref l],[]⟩) (fun _ R s=>s.heap.get? l=some {cls:=.type "tuple",dict:=dct,data:=.seq items n,slots:=sl}/\
  R (.ok (.ret (.ref (Sf s.heap l).objs.size))) {s with heap:=(Sf s.heap l).push {cls:=.type "enumerate",data:=.fields `br'}}):=
 .of_wp fun prog w A R s h=>by
  show 42;have abJ:=sub_enumerate;have hL:Heap.IsTuple (Shared.heap #[hp,g,d,tk,os]) l items:=#[_,hl,rfl,n,rfl]
  wp_walk using oj hl
  refine wpAny_stack_any fun st=>aJ ?_
  split
  ·rename_i c _ _ _ _ _;cases(c==Value.type "enumerate")
   ·wp_walk using oj hl,iN hL
    exact `f0'
   ·wp_walk using oj hl,iN hL
    exact `f0'
  ·wp_walk using oj hl,iN hL
   exact `f0'
section
variable {prog:bN} {w:cV} {A:dY} {E:aA->aS->Prop} {s:aS}
def HC {l:ak} {items:Array aA} {Q:aA->aS->Prop} (hL:s.heap.IsTuple l items)
 (h:∀h',IsEnum h' `i' s.heap.objs.size 0 .none->h'.IsTupleIter s.heap.objs.size l 0->h'.objs.size=s.heap.objs.size+2->(∀b o,s.heap.get? b=some o->h'.get? b=some o)->Q (.ref `i') {s with heap:=h'}):
 wpAny `C' A (call (.type "enumerate") [.ref l]) Q E s:=by
 obtain⟨⟨c,dct,dt,sl⟩,hl,hc,n,hd⟩:=hL
 replace hc:c= .type "tuple":=hc
 replace hd:dt= .seq items n:=hd
 subst hc hd;refine callType_new F.called_enumerate `KK (F.typeCall_enumerate_1 _) (F.newCall_enumerate_1 _) (fun obj=>F.args_object_init_2 obj _) F.entry_enumerate_new (Ge l items n dct sl) #[hl,?_];have hz:(Sf s.heap l).objs.size=s.heap.objs.size+1:=b8 ..;show _/\_;rw[hz];have he:IsEnum ((Sf s.heap l).push {cls:=.type "enumerate",data:=.fields `br'}) `i' s.heap.objs.size 0 .none:=by
  have:=a7 (Sf s.heap l) (o:={cls:=.type "enumerate",data:=.fields `br'}) rfl;rw[hz] at this;exact this
 refine#[#[_,he,rfl],h _ he #[_,ap _ `f3',rfl,rfl] (by rw[b8,hz]) fun b o x=>ap _ (ap _ x)]
end
def Vt (a:ak):It:=
 #[fun i H=>∃(xs:List V) (x:V),H a=some `cd'/\xs[i]? =some x,fun i H v H'=>∃T x,v= .ref T/\H T=none/\H'=bO H T `aj'/\∀xs,H a=some `cd'->xs[i]? =some x,fun i H=>∃xs:List V,H a=some `cd'/\xs.length=i]
def HF {P:bN} {w:cV} {K:ai} {Nq:List Expr} {kk:Nat} {GS:Pos} (a e it:ak):
 Ef P w K `iq' (Vt a) [e,it] e (fun i h=>(∃rq,IsEnum h e it ((i:Nat):Int) rq)/\h.IsTupleIter it a i/\e≠it) where
 mem:=by simp
 obj:=fun i h st b hb=>by
  obtain⟨⟨rq,he⟩,⟨o,ho,hc,hd⟩,_⟩:=st;show 101
  show 187
  ·rw[z];exact#[_,he,fun v q=>nomatch q]
  ·rw[z];exact `jv'
 keep:=fun i h h' st k=>let⟨⟨rq,he⟩,hi,lH⟩:=st;#[#[rq,k e `S' _ he],hi.at fun o q=>k it `S' o q,lH]
 item:=by
  show 2;show 115;show 180;obtain⟨hz,its,rv,p⟩:=I.hok a _ hq;obtain⟨u,hu,ru⟩:=rv.get hx;have Q7:e<s.heap.objs.size:=a8 he;show 176
  have f1:=(hf it `S').1;have f2:=(hf e `S').1;have hai:a≠it:=fun z=>by rw[z,f1] at hq;cases hq
  have hea:e≠a:=fun z=>by rw[<-z,f2] at hq;cases hq
  refine wpAny_pyNext_enum_itemD (Qc (A:=X.A.in1) `bZ' it a hai its.toArray) he #[qf,p] (by simpa using (bd.mp hu).1) lH (by simp[lH,hea]) fun y h' tk hy ho aa1 hT hsz hk=>?_;have hyu:y=u:=by
   have:its[i]? =some y:=by simpa using hy
   rw[hu] at this;exact(aP this).symm
  subst hyu;refine#[_,rfl,wpAny_letOwnedTupleGo_enum ho fun Wx W3 sb=>?_];have sF:=(sb.2 _ (gS Q7)).trans hT;have new:kW X.prog X.w (bO H s.heap.objs.size `aj') Wx s.heap.objs.size `aj':=#[by show 2<=sizeLine;decide,[.int i tk,y],.cons `dQ' (.cons ru .nil),#[_,sF,rfl,_,rfl]]
  have I1:cB X pins σ (bO H s.heap.objs.size `aj') {s with heap:=Wx,toks:=tk+1}:=
   I.turnedNew (ch:=[e,it]) `ch' hf (ax _) new
  refine#[.ref s.heap.objs.size,_,I1,rfl,#[_,x,rfl,I.hok.fresh (ax _),rfl,fun ys hy=>by rw[hq] at hy;cases hy;exact hx],#[#[y,?_],aa1.1.at fun o q=>(sb.2 it (je lH)).trans q,lH],fun b hb=>?_]
  ·have e1:((i+1:Nat):Int)=(i:Int)+1:=by omega
   rw[e1];exact W3
  ·have CV:b<s.heap.objs.size:=by
    show 101
    show 187
    ·rw[z];exact Q7
    ·rw[z];exact Xy
   rw[aZ (cF CV)];exact(hf b hb).1
 done:=by
  show 2;show 115;obtain⟨xs,hq,hx⟩:=hg;obtain⟨hz,its,rv,p⟩:=I.hok a _ hq;show 5;have hl:=rv.length;have hai:a≠it:=fun z=>by rw[z,f0] at hq;cases hq
  have hi:i=its.toArray.size:=by simp;omega
  refine wpAny_pyNext_enum_endD (Qc (A:=X.A.in1) `bZ' it a hai its.toArray) he (hi▸#[qf,p]) fun h' eb=>#[rfl,I.turned (t':=s.toks) `nL' f0 f1 f3 f4 f5]
 self:=fun A i s Q E st h=>let⟨⟨_,he⟩,_⟩:=st;mz he h
def Vl (ta:TA):TI:=fun σ H R=>ta σ H fun vs H1=>∃a xs,vs=`eH'/\H1 a=some `cd'/\R (Vt a) H1
def OM {X:Cx} {e:Expr} {ta:TA} {p pos GS:Pos} {Nq:List Expr} {kk:Nat} (hg:Gl X "enumerate") (hm:X.mg "enumerate"=none) (ha:PA X [e] ta) (hs:starEach [e] X.env=`el':=by rfl):
 PI X `iq' `iZ' (Vl ta):=by
 show 59;cases r1 with
 |cons r rr=>
  cases rr;cases r;obtain⟨hz,its,rv,p'⟩:=I1.hok a _ hq;refine HC p' fun h' he qf hsz hk=>mz he ?_;show 196;refine#[s1.heap.objs.size+1,`jF',_,_,H1,rfl,I2,HF a (s1.heap.objs.size+1) s1.heap.objs.size,`kd',fun b hb=>?_,q];show 158
  have Ew:s1.heap.objs.size<=b:=by
   show 187
   ·show 188
   ·rw[z];exact ax _
  exact I1.fpOk Ew `mt'
section
variable {prog:bN} {w:cV} {A:dY} {E:aA->aS->Prop} {s:aS}
def Bw {t sl:ak} {items:Array aA} {vl vu:aA} {lo hi:Option Int} {Q:aA->aS->Prop} (ht:IsTup s.heap t items) (hs:s.heap.IsSliceOf sl vl vu .none) (pl:IsPart vl lo) (pu:IsPart vu hi)
 (hw:HT.sIx items.size 0 lo=0/\HT.sIx items.size items.size hi=items.size) (h:Q `h2' s):wpAny `C' A (getItem `h2' `mJ') Q E s:=by
 show 144
 unfold getItem
 try with_reducible refine eS ?_
 first|refine ah `cS'|skip
 refine ah (wpAny_sequenceKey ht.typeIs `KK ?_);refine ah (cX ht.typeIs dZ (eT dZ ht.typeIs entry_tuple_getitem ?_ (args_tuple_getitem _ _)));show 56;refine ah (HT.sliceApplied_gen hs pl pu ?_);have iY:`b6'=true:=by
  rw[hw.1,hw.2];simp
 show wpAny _ _ (if `b6'=true then _ else _) _ _ s;rw[aD iY];refine ah (ah (wpAny_typeOf ht.typeIs `cS'));rw[aD `KK];exact ah (lX (aJ #[_,rfl,aJ h]))
end
section
variable {X:Cx}
def KB (K:ai):V->Option Int->Option Int->Hp->VK->Prop:=fun x lo hi H Q=>∃a xs,x= .ref a/\iX K H a xs/\(`bS'->Q `bu' H)/\
 (¬`bS'->∀p,H p=none->Q `dR' `mN')
def J0:SlR X (KB X.K):=by
 show 88;obtain⟨a,xs,rfl,hx,q1,q2⟩:=h;by_cases hw:HT.sIx xs.length 0 lo=0/\HT.sIx xs.length xs.length hi=xs.length
 ·show 71
  refine `kA';exact Bw ht hs pl pu (by rw[fY];exact hw) #[.ref a,H,I,rfl,q1 hw]
 ·exact Be pins s σ H `bu' v vl vu lo hi sl Q I rx hs pl pu #[a,xs,rfl,hx,hw,q2 hw]
def ZI (K:ai):List V->Hp->VK->Prop:=fun vs H Q=>∃(a:ak) (ns:List Int),vs=`lr'/\iX K H a `gB'/\Q (.int ns.sum) H
def R7 (hc:X.calm=true):rf X `m5' (ZI X.K):=by
 show 82;obtain⟨a,ns,rfl,hs,q⟩:=h;obtain⟨its,rv,hl,_⟩:=I.tuple hs;rw[dy.ref1 r];have hi:=rv.ints;show 6
 show 226;have hl:s.heap.IsTuple a (intItems xs):=by rw[<-e];exact hl
 refine PySem.W.ktm_sumG `bZ' hl fun h' tk t' hk=>#[.int _,H,I.kept hk,`dQ',?_]
 rw[preSum_eq,cS `S',hn];exact q
def ipM:TIp:=fun x y H Q=>∃i j,x= .int i/\y= .int j/\OY i j/\Q (.int (i*j)) H
def U9:PIp X .Mult ipM:=by
 intro pins s σ H x y v u Q I r1 r2 h;obtain⟨i,j,e1,e2,hc,q⟩:=h;subst e1;subst e2;obtain⟨t,rfl⟩:=r1;obtain⟨t',rfl⟩:=r2;exact imul_int (h:=#[.int _,H,I.tok _,`dQ',q]) (hm:=hc.ok)
def Oc:E7 X (binaryOp .FloorDiv) (rI (fun _ j=>0<j/\j.natAbs.log2<9000) fun i j=>.int (i/j)):=opI fun i j _ _ _ _ _ hc q=>by
 have h1:=hc.1;exact floordiv_int `mt (by rw[Int.fdiv_eq_ediv_of_nonneg i `mt];exact q) (.inl (PyProof.noPylong_of_log2 hc.2))
def Go {K:ai} {a:ak} {xs:List V} {g:TG} {tb:TS} {D:Dt} {σ:St} {H:Hp} (Pv:Nat->St->Hp->Prop) (h0:Pv 0 σ H) (hl:∀i σ H,i<=xs.length->Pv i σ H->SqL K H a xs)
 (hs:∀i x T σ H,xs[i]? =some x->Pv i σ H->H T=none->g (.ref T) σ (bO H T `aj') fun σ2 H2=>tb {D with nx:=Pv (i+1),ct:=Pv (i+1),bk:=D.nx} σ2 H2) (hd:∀σ H,Pv xs.length σ H->D.nx σ H):
 ∃W:Nat->Nat->St->Hp->Prop,(∃m,W 0 m σ H)/\∀i m σ H,W i m σ H->
  ((VM K a).stop i H/\D.nx σ H)\/((VM K a).go i H/\∃N:St->Hp->Prop,(∀σ' H',N σ' H'->∃m',m'<m/\W (i+1) m' σ' H')/\∀x H',(VM K a).yld i H x H'->g x σ H' fun σ2 H2=>tb {D with nx:=N,ct:=N,bk:=D.nx} σ2 H2):=by
 refine `dC';show 95;have q:=hl i σ H hi p;by_cases jB:i<xs.length
 ·show 184;obtain⟨T,x',rfl,hT,rfl,hx⟩:=y;exact hs i x' T σ H (hx _ q) p hT
 ·have:i=xs.length:=by omega
  subst this;exact .inl #[`m2',hd σ H p]
end
def Im {a b:Int} (ha:0<=a) (ha':a<2^63) (hb:0<=b) (CV:b<2^62):small a b 1=true:=by
 unfold small;rw[rangeSize_one];simp only[Builtin.Range.rangeFitsLong,aX,lT,bK,gv,show(1:Int)>0 by decide,oI]
 split<;>omega
section
variable {X:Cx} {tg:Expr}
def aaB (ta:TA):TI:=fun σ H R=>ta σ H fun vs H1=>∃i j:Int,vs=`kc'/\(0<=i/\i<2^63/\0<=j/\j<2^62)/\R (L6 i (j - i).toNat) H1
def Mz {a b:Expr} {ta:TA} {p pos:Pos} (hg:Gl X "range") (hm:X.mg "range"=none) (ha:PA X [a,b] ta) (hs:starEach [a,b] X.env=`iF':=by rfl) (Jo:starEach [b] X.env=[(false,eval b X.env)]:=by rfl):
 PI X tg (.Call `ip' [a,b] [] pos) (aaB ta):=by
 show 109;obtain⟨lo,hi,e,⟨q1,q2,q3,q4⟩,q⟩:=q1;subst e;cases r1 with
 |cons r rr=>
  cases rr with
  |cons r' rr=>
   cases rr;show 49;obtain⟨u,rfl⟩:=r';refine call_range_2 (wpAny_pyIter_range `i8' (Im q1 q2 q3 q4) ?_);refine(fun(I2:cB X pins σ H1 _)=>?_) (I1.kept (t':=s1.toks+1) (h':=s1.heap.push {cls:=.type "range",data:=.fields `bz'}) fun b o e=>ap _ e);refine#[(s1.heap.push {cls:=.type "range",data:=.fields `bz'}).objs.size,[(s1.heap.push {cls:=.type "range",data:=.fields `bz'}).objs.size],_,_,H1,rfl,I2.kept fun b o e=>ap _ e,A1 _ lo (hi - lo).toNat,?_,fun b hb=>?_,q]
   ·have e1:lo+((0:Nat):Int)*1=lo:=by simp
    have e2:(((hi - lo).toNat:Nat):Int) - ((0:Nat):Int)=rangeSize lo hi 1:=by rw[rangeSize_one];split<;>omega
    rw[e1,e2];exact a7 _ rfl
   ·have e:b=(s1.heap.push {cls:=.type "range",data:=.fields `bz'}).objs.size:=by simpa using hb
    subst e;exact I2.fpOk (ax _) (I2.hok.fresh (ax _))
end
end L2
namespace RR
open Wqarao
def IL:∀(l:List Nat) (a:Nat),l.foldl (fun(n x:Nat)=>n+x) a=a+Wqarao.sum l
 | [],a=>rfl
 |x::l,a=>by
  show l.foldl _ (a+x)=a+l.foldl _ (0+x);rw[IL l (a+x),IL l (0+x)];omega
def RI:Wqarao.sum []=0:=rfl
def sum_cons (x:Nat) (l:List Nat):Wqarao.sum (x::l)=x+Wqarao.sum l:=by
 show l.foldl _ (0+x)=_;rw[IL];omega
def r8:∀(l m:List Nat),Wqarao.sum (l++m)=Wqarao.sum l+Wqarao.sum m
 | [],m=>by rw[iq,RI,cE]
 |x::l,m=>by
  rw[lh,sum_cons,sum_cons,r8 l m];omega
def yU:∀(l:List Nat),(∀x∈l,x=0)->Wqarao.sum l=0
 | [],_=>rfl
 |x::l,h=>by
  rw[sum_cons,h x `dG',yU l fun y hy=>h y `hg']
def cR (K:Kind):Nat->Place->Row->Bool
 |_,p,[]=>K.ends p
 |i,p,x::r=>match K.step p i x with
  |none=>false
  |some q=>cR K (i+1) q r
def cG (K:Kind) (r:Row):Bool:=cR K 0 K.start r
def tl (f:Row->Bool) (x:Nat):Row->Bool:=fun r=>f (x::r)
def nil:Row->Bool:=fun _=>false
def num (L:Nat):Nat->`jz'->Nat
 |0,f=>if f []=true then 1 else 0
 |n+1,f=>Wqarao.sum ((List.range L).map fun x=>num L n `nB')
def nM (L:Nat):∀n,num L n nil=0
 |0=>rfl
 |n+1=>by
  refine yU _ fun y hy=>?_;obtain⟨x,_,rfl⟩:=aV.mp hy;exact nM L n
def kX {K:Kind} {i:Nat} {p:Place} {x:Nat} (h:K.step p i x=none):tl `c3' x=nil:=by
 funext r
 show cR K i p (x::r)=false;unfold cR;rw[h]
def k7 {K:Kind} {i:Nat} {p q:Place} {x:Nat} (h:K.step p i x=some q):tl `c3' x=cR K (i+1) q:=by
 funext r
 show cR K i p (x::r)=_
 conv=>lhs;unfold cR
 rw[h]
def C8:∀p:Place,placeBefore p p=false
 | []=>rfl
 |x::r=>by
  unfold placeBefore;rw[C8 r];simp
def wm:∀{p q s:Place},placeBefore p q=true->placeBefore q s=true->placeBefore p s=true
 | [],[],_,h,_=>by cases h
 | [],_::_,[],_,h=>by cases h
 | [],_::_,_::_,_,_=>rfl
 |_::_,[],_,h,_=>by cases h
 |_::_,_::_,[],_,h=>by cases h
 |x::r,y::s,z::t,h,g=>by
  unfold placeBefore at h g⊢
  simp only[lT,aX,bK,gv] at h g⊢
  rcases h with h| ⟨rfl,h⟩
  ·rcases g with g| ⟨rfl,g⟩
   ·left;omega
   ·left;exact h
  ·rcases g with g| ⟨rfl,g⟩
   ·left;exact g
   ·right;exact#[rfl,wm h g]
def HR:∀{p q:Place},placeBefore p q=false->placeBefore q p=false->p=q
 | [],[],_,_=>rfl
 | [],_::_,h,_=>by cases h
 |_::_,[],_,h=>by cases h
 |x::r,y::s,h,g=>by
  unfold placeBefore at h g;simp only[Bool.or_eq_false_iff,Bool.and_eq_false_iff,decide_eq_false_iff_not,gz] at h g;have e:x=y:=by omega
  subst e;have h2:placeBefore r s=false:=by
   rcases h.2 with h2|h2
   ·exact absurd rfl h2
   ·exact h2
  have g2:placeBefore s r=false:=by
   rcases g.2 with h2|h2
   ·exact absurd rfl h2
   ·exact h2
  rw[HR h2 g2]
def Kq {p q:Place} (h:placeBefore p q=true):placeBefore q p=false:=by
 cases e:placeBefore q p with
 |false=>rfl
 |true=>
  have:=wm h e;rw[C8] at this;cases this
abbrev Le (p q:Place):Prop:=(!placeBefore q p)=true
def LZ (a b c:Place) (h:(!placeBefore b a)=true) (g:(!placeBefore c b)=true):(!placeBefore c a)=true:=by
 simp only[mM] at h g⊢
 cases e:placeBefore c a with
 |false=>rfl
 |true=>
  cases e2:placeBefore a b with
  |true=>rw[wm e e2] at g;cases g
  |false=>
   have:=HR e2 h;subst this;rw[e] at g;cases g
def Ls (a b:Place):((!placeBefore b a)||(!placeBefore a b))=true:=by
 cases e:placeBefore b a with
 |false=>rfl
 |true=>rw[Kq e];rfl
def oa (m:List Place) (p:Place):List Place:=match m with
 |q::_=>if q=p then m else p::m
 | []=>[p]
def Cp:∀(l m:List Place),m.Pairwise `f7'->l.Pairwise Le->(∀a∈m,∀b∈l,Le a b)->
 (l.foldl oa m).Pairwise `f7'/\∀p,p∈l.foldl oa m↔p∈m\/p∈l
 | [],m,hm,_,_=>#[hm,fun p=>by simp]
 |x::l,m,hm,hl,hb=>by
  have sJ:=l4.mp hl;have key:(oa m x).Pairwise `f7'/\(∀p,p∈oa m x↔p∈m\/p=x):=by
   cases m with
   |nil=>exact#[ig _ _,fun p=>by simp[oa]]
   |cons q m=>
    unfold oa;by_cases e:q=x
    ·subst e;simp only[oI];refine#[hm,fun p=>?_];simp only[bh]
     constructor
     ·intro h;show 181
     ·rintro(h|h)
      ·exact h
      ·show 181
    ·simp only[au e];refine#[l4.mpr #[fun a ha=>?_,hm],fun p=>?_]
     ·have hq:placeBefore q x=true:=by
       cases e2:placeBefore q x with
       |true=>rfl
       |false=>
        have h3:=hb q `dG' x `dG';simp only[Le,mM] at h3;exact absurd (HR e2 h3) e
      rcases bh.mp ha with rfl|ha
      ·exact hq
      ·exact wm ((l4.mp hm).1 a ha) hq
     ·simp only[bh]
      constructor
      ·rintro(h|h)
       ·exact Or.inr h
       ·show 181
      ·rintro(h|h)
       ·exact Or.inr h
       ·show 181
  have ih:=Cp l (oa m x) key.1 sJ.2 (fun a ha b CV=>by
   rcases(key.2 a).mp ha with h|rfl
   ·exact hb a h b (aK _ CV)
   ·exact sJ.1 b CV)
  refine#[ih.1,fun p=>?_];rw[dI,ih.2 p,key.2 p,bh]
  constructor
  ·rintro((h|h)|h)
   ·show 181
   ·exact Or.inr `ni'
   ·exact Or.inr (Or.inr h)
  ·rintro(h|h|h)
   ·exact Or.inl `ni'
   ·exact Or.inl (Or.inr h)
   ·exact Or.inr h
abbrev D4 (l:List Place):Prop:=l.Pairwise (fun a b=>placeBefore a b=true)
def Fq (l:List Place):eachOnce l=(l.foldl oa []).reverse:=rfl
def F1 {l:List Place} (h:l.Pairwise Le):D4 (eachOnce l)/\∀p,p∈eachOnce l↔p∈l:=by
 have z:=Cp l [] List.Pairwise.nil h (fun a ha=>by cases ha);rw[Fq];refine#[List.pairwise_reverse.mpr z.1,fun p=>?_];rw[List.mem_reverse,z.2 p];simp
def wU (K:Kind) (i:Nat) (l:List Place):D4 `fr'/\∀q,q∈onward K i l↔∃p∈l,∃x<K.letters,K.step p i x=some q:=by
 unfold onward;have z:=F1 (l:=(l.flatMap fun(p:Place)=>(List.range K.letters).filterMap fun(x:Nat)=>K.step p i x).mergeSort fun(p q:Place)=> !placeBefore q p)
  (List.pairwise_mergeSort (fun a b c=>LZ a b c) Ls _)
 refine#[z.1,fun q=>?_];rw[z.2 q,List.mem_mergeSort,jF];simp only[iP,aL]
def Dz:∀(f:Nat) (l:List (Place×Nat)),l.Pairwise `fe'->l.length<2^f->∀p v,(p,v)∈l->ways (treeFrom f l) p=v
 |0,l,_,h,p,v,m=>by
  have:l.length=0:=by simpa using h
  rw[bV.mp this] at m;cases m
 |f+1,l,hs,h,p,v,m=>by
  have lH:=jS m;have h2:l.length/2<l.length:=by omega
  obtain⟨x,r,e⟩:∃x r,l.drop (l.length/2)=x::r:=by
   cases e:l.drop `ks' with
   |nil=>
    have:=List.drop_eq_nil_iff.mp e;omega
   |cons x r=>exact#[x,r,rfl]
  have el:l.take `ks'++x::r=l:=by rw[<-e,gI]
  have fY:(l.take `ks').length=l.length/2:=by rw[be];omega
  have hr:r.length=l.length - l.length/2 - 1:=by
   have:=dH List.length e;rw[b6,aF] at this;omega
  have e2:2^(f+1)=2^f+2^f:=by rw[oK];omega
  have KP:(l.take `ks'++x::r).Pairwise `fe':=by rw[el];exact hs
  obtain⟨s1,s2,s3⟩:=List.pairwise_append.mp KP;obtain⟨s4,s5⟩:=l4.mp s2;unfold treeFrom;rw[e];show(if placeBefore p x.1=true then ways (treeFrom f (l.take `ks')) p else if placeBefore x.1 p=true then ways (treeFrom f r) p else x.2)=v;rw[<-el] at m;rcases eN.mp m with m|m
  ·have:=s3 _ m x `dG';rw[aD this];exact Dz f _ s1 (by rw[fY];omega) p v m
  ·rcases bh.mp m with m|m
   ·subst m;rw[au (by rw[C8];decide),au (by rw[C8];decide)]
   ·have:=s4 _ m;rw[au (by rw[Kq this];decide),aD this];exact Dz f _ s5 (by rw[hr];omega) p v m
def L8 {l:List (Place×Nat)} (hs:l.Pairwise `fe') {p:Place} {v:Nat} (m:(p,v)∈l):ways (treeOf l) p=v:=by
 refine Dz _ l hs ?_ p v m;have:=Nat.lt_log2_self (n:=l.length);refine Nat.lt_trans this ?_;exact Nat.pow_lt_pow_right `KK `mt
def yP {l:List Place} (hs:D4 l) (g:Place->Nat) {p:Place} (m:p∈l):ways (treeOf (l.map fun q=>(q,g q))) p=g p:=by
 refine L8 ?_ (aV.mpr #[p,m,rfl]);rw[List.pairwise_map];exact hs
def Rl (K:Kind):Nat->List Place->Nat->Place->Prop
 |_,l,0,p=>p∈l
 |i,l,j+1,p=>Rl K (i+1) `fr' j p
def JW {K:Kind}:∀{j i:Nat} {l:List Place} {p q:Place} {x:Nat},Rl K i l j p->x<K.letters->K.step p (i+j) x=some q->Rl K i l (j+1) q
 |0,i,l,p,q,x,h,hx,hs=>((wU K i l).2 q).mpr #[p,h,x,hx,hs]
 |j+1,i,l,p,q,x,h,hx,hs=>JW (j:=j) h hx (by rw[show i+1+j=i+(j+1) by omega];exact hs)
def EZ (K:Kind) (n i:Nat) (l:List Place):∃r,layersFrom K n i l=l::r:=by
 cases n with
 |zero=>exact#[[],rfl]
 |succ n=>exact `dQ'
def HQ {α:Type} (l:List α) (d:α):l.headD d=l.getD 0 d:=by
 cases l<;>rfl
def vm (K:Kind):∀(n i:Nat) (l:List Place),D4 l->∀(j:Nat) (p:Place),j<=n->Rl K i l j p->
 ways ((countedFrom K i (layersFrom K n i l)).getD j .nothing) p=num K.letters (n - j) (cR K (i+j) p)
 |0,i,l,hs,j,p,hj,h=>by
  have:j=0:=by omega
  subst this;show ways (treeOf (l.map fun(p:Place)=>(p,if K.ends p=true then 1 else 0))) p=_;rw[yP hs _ h];rfl
 |n+1,i,l,hs,j,p,hj,h=>by
  obtain⟨r,er⟩:=EZ K n (i+1) `fr';have e1:layersFrom K (n+1) i l=l::layersFrom K n (i+1) `fr':=rfl;have e2:countedFrom K i (layersFrom K (n+1) i l)=treeOf (l.map fun(p:Place)=>(p,waysOn K i ((countedFrom K (i+1) (layersFrom K n (i+1) `fr')).headD .nothing) p))::countedFrom K (i+1) (layersFrom K n (i+1) `fr'):=by
   rw[e1,er];rfl
  rw[e2];have ih:=vm K n (i+1) `fr' (wU K i l).1;cases j with
  |zero=>
   rw[iw,yP hs _ h,HQ];refine dH Wqarao.sum (dE fun x hx=>?_);cases e:K.step p i x with
   |none=>
    rw[kX (by exact e),nM];rfl
   |some q=>
    rw[k7 (by exact e)];have:=ih 0 q (aN _) (((wU K i l).2 q).mpr #[p,h,x,aL.mp hx,e]);exact this
  |succ j=>
   rw[jy,ih j p `mt h,show i+1+j=i+(j+1) by omega,show n+1 - (j+1)=n - j by omega]
def At (K:Kind) (j:Nat) (p:Place):Prop:=Rl K 0 [K.start] j p
def EE (K:Kind):At K 0 K.start:=aI ..
def Ru {K:Kind} {j:Nat} {p q:Place} {x:Nat} (h:At K j p) (hx:x<K.letters) (hs:K.step p j x=some q):At K (j+1) q:=
 JW h hx (by rw[cE];exact hs)
def Iq {K:Kind} {j:Nat} {p:Place} (hj:j<=K.len) (h:At K j p):(opened K).at_ j p=num K.letters (K.len - j) (cR K j p):=by
 have:=vm K K.len 0 [K.start] (ig _ _) j p hj h;rw[cE] at this;exact this
def uf (K:Kind):(opened K).count=num K.letters K.len (cG K):=Iq (aN _) (EE K)
def ln (a b:Option Place):first (two a b)=a:=by
 cases a with
 |none=>rfl
 |some l=>
  show some ((l++one b).take `nw')=some l;rw[pD,List.take_left'];rfl
def BX (b:Option Place):first (one b)=b:=by
 cases b with
 |none=>rfl
 |some l=>
  show some (l.take `nw')=some l;rw[pD,eU]
def jX (a b:Option Place):second (two a b)=b:=by
 cases a with
 |none=>
  exact BX b
 |some l=>
  show first ((l++one b).drop `nw')=b
  rw[pD,List.drop_left']
  ·exact BX b
  ·rfl
def cB:Kind->Place->Prop
 | .orders c,l=>l.length=c.length
 | .parts _ _ most,l=>l.getD 0 0<=most
 | .both a b,l=>∃p q,l=two (some p) (some q)/\cB a p/\cB b q
 | .either a b,l=>∃p q,l=two p q/\(∀p',p=some p'->cB a p')/\(∀q',q=some q'->cB b q')
 | .less a b,l=>∃p q,l=two (some p) q/\cB a p/\(∀q',q=some q'->cB b q')
 | .then_ a b,l=>(∃r,l=0::r/\cB a r)\/(∃r,l=1::r/\cB b r)
 | .begins a _,l=>cB a l
 |_,_=>True
def jK:∀K:Kind,cB K K.start
 | .orders c=>rfl
 | .parts _ _ most=>ax _
 | .both a b=>#[_,_,rfl,jK a,jK b]
 | .either a b=>#[_,_,rfl,fun p' e=>(by cases e;exact jK a),fun p' e=>(by cases e;exact jK b)]
 | .less a b=>#[_,_,rfl,jK a,fun p' e=>by cases e;exact jK b]
 | .then_ a b=>Or.inl #[_,rfl,jK a]
 | .begins a _=>jK a
 | .words .. =>trivial
 | .choices .. =>trivial
 | .bags .. =>trivial
 | .derangements .. =>trivial
 | .involutions .. =>trivial
 | .zigzags .. =>trivial
 | .shares .. =>trivial
 | .groups .. =>trivial
 | .paths .. =>trivial
 | .automaton .. =>trivial
 | .extensions .. =>trivial
 | .walks .. =>trivial
 | .matchings .. =>trivial
def dg {c:Prop} [Decidable c] {α:Type} {a:Option α} {q:α} (h:(if c then none else a)=some q):¬c/\a=some q:=by
 by_cases hc:c
 ·rw[aD hc] at h;cases h
 ·rw[au hc] at h;exact#[hc,h]
def hZ {c:Prop} [Decidable c] {α:Type} {a:Option α} {q:α} (h:(if c then a else none)=some q):c/\a=some q:=by
 by_cases hc:c
 ·rw[aD hc] at h;exact#[hc,h]
 ·rw[au hc] at h;cases h
def kG:∀(K:Kind) {l q:Place} {i x:Nat},cB K l->K.step l i x=some q->cB K q/\x<K.letters
 | .words n k,l,q,i,x,_,h=>by
  have:=hZ h;exact#[trivial,this.1]
 | .choices n k,l,q,i,x,_,h=>#[trivial,(hZ h).1.1]
 | .bags n k,l,q,i,x,_,h=>#[trivial,(hZ h).1.1]
 | .orders c,l,q,i,x,hi,h=>by
  obtain⟨h1,h2⟩:=dg h;cases h2;have hi:=hi;refine#[by show(l.set _ _).length=_;rw[eC];exact hi,?_];show x<c.length;rw[<-hi];apply cu;intro hx;refine h1 ?_;rw[ay,bc `mt];rfl
 | .derangements n,l,q,i,x,_,h=>by
  show 11;show x<n;omega
 | .involutions n,l,q,i,x,_,h=>by
  show 11;show x<n;omega
 | .zigzags n,l,q,i,x,_,h=>by
  show 11;exact gJ fun g=>h1 `nh'
 | .parts cf n most,l,q,i,x,hi,h=>by
  obtain⟨h1,h2⟩:=dg h;cases h2;have hi:l.getD 0 0<=most:=hi;refine#[?_,?_]
  ·show x<=most;omega
  ·show x<most+1;omega
 | .shares cf n jd most,l,q,i,x,_,h=>by
  show 11;show x<most+1;omega
 | .groups n k,l,q,i,x,_,h=>by
  show 11;show x<k;omega
 | .paths n iZ e,l,q,i,x,_,h=>by
  refine `dp';show x<2;unfold Kind.step at h;by_cases h1:x=1
  ·omega
  ·rw[au h1] at h;have:=(hZ h).1;omega
 | .automaton next jP k a n,l,q,i,x,_,h=>by
  show 11;show x<k;omega
 | .extensions e n,l,q,i,x,_,h=>by
  show 11;exact gJ fun g=>h1 `nh'
 | .walks to yD n s e,l,q,i,x,_,h=>by
  show 11;exact gJ fun g=>h1 `nh'
 | .matchings j n,l,q,i,x,_,h=>by
  show 11;exact gJ fun g=>h1 `nh'
 | .both a b,l,q,i,x,hi,h=>by
  show 45;simp only[bind_some] at h;cases e1:a.step p i x with
  |none=>rw[e1] at h;cases h
  |some p'=>
   cases e2:b.step r i x with
   |none=>rw[e1,e2] at h;cases h
   |some r'=>
    rw[e1,e2] at h;cases h;have s1:=kG a ia e1;have s2:=kG b ib e2;exact#[#[_,_,rfl,s1.1,s2.1],Nat.lt_min.mpr #[s1.2,s2.2]]
 | .either a b,l,q,i,x,hi,h=>by
  show 45;have s1:∀p',(p.bind fun(p:Place)=>a.step p i x)=some p'->cB a p'/\x<a.letters:=fun p' e=>by
   cases p with
   |none=>cases e
   |some p=>exact kG a (ia p rfl) e
  have s2:∀p',(r.bind fun(p:Place)=>b.step p i x)=some p'->cB b p'/\x<b.letters:=fun p' e=>by
   cases r with
   |none=>cases e
   |some p=>exact kG b (ib p rfl) e
  have lm:∀m,x<m->m=a.letters\/m=b.letters->x< (Kind.either a b).letters:=fun m h1 h2=>by
   show x<max a.letters b.letters;omega
  cases e1:p.bind fun(p:Place)=>a.step p i x with
  |none=>
   cases e2:r.bind fun(p:Place)=>b.step p i x with
   |none=>rw[e1,e2] at h;cases h
   |some r'=>
    rw[e1,e2] at h;cases h;exact#[#[none,some r',rfl,fun _ e=>`dt',fun _ e=>(by cases e;exact(s2 _ e2).1)],lm _ (s2 _ e2).2 `b0']
  |some p'=>
   show 168;exact#[#[some p',_,rfl,fun _ e=>(by cases e;exact(s1 _ e1).1),fun _ e=>(s2 _ e).1],lm _ (s1 _ e1).2 `Cl]
 | .less a b,l,q,i,x,hi,h=>by
  show 45;simp only[bind_some] at h;cases e1:a.step p i x with
  |none=>rw[e1] at h;cases h
  |some p'=>
   show 168;have s1:=kG a ia e1;refine#[#[p',_,rfl,s1.1,fun r' e=>?_],s1.2];cases r with
   |none=>cases e
   |some r=>exact(kG b (ib r rfl) e).1
 | .then_ a b,l,q,i,x,hi,h=>by
  have lm:∀m,x<m->m=a.letters\/m=b.letters->x< (Kind.then_ a b).letters:=fun m h1 h2=>by
   show x<max a.letters b.letters;omega
  rcases hi with⟨r,rfl,ia⟩| ⟨r,rfl,ib⟩
  ·unfold Kind.step at h;by_cases hl:i<a.len
   ·simp only[aD hl] at h;cases e1:a.step r i x with
    |none=>rw[e1] at h;cases h
    |some r'=>
     show 168;have s1:=kG a ia e1;exact#[Or.inl #[_,rfl,s1.1],lm _ s1.2 `Cl]
   ·simp only[au hl] at h;obtain⟨_,h⟩:=hZ h;cases e1:b.step b.start 0 x with
    |none=>rw[e1] at h;cases h
    |some r'=>
     show 168;have s1:=kG b (jK b) e1;exact#[Or.inr #[_,rfl,s1.1],lm _ s1.2 `b0']
  ·unfold Kind.step at h;simp only at h;cases e1:b.step r (i - a.len) x with
   |none=>rw[e1] at h;cases h
   |some r'=>
    show 168;have s1:=kG b ib e1;exact#[Or.inr #[_,rfl,s1.1],lm _ s1.2 `b0']
 | .begins a p,l,q,i,x,hi,h=>by
  obtain⟨_,h⟩:=hZ h;exact kG a hi h
def qc (L n:Nat) (f:Row->Bool) (x:Nat):Nat:=Wqarao.sum ((List.range (min x L)).map fun y=>num L n (tl f y))
def iL (L:Nat):Nat->`jz'->Row->Nat×Nat
 |n,f,[]=>(0,num L n f)
 |0,_,_::_=>(0,0)
 |n+1,f,x::r=>if x<L then(qc L n f x+(iL L n `nB' r).1,(iL L n `nB' r).2) else(qc L n f x,0)
def wS (L n:Nat) (f:Row->Bool):iL L n f []=(0,num L n f):=by cases n<;>rfl
def FA (o:Opened) (i:Nat) (p:Place):beginningFrom o i p []=(0,o.at_ i p):=by unfold beginningFrom;rfl
def k5 (g:Nat->Nat):List Nat->Nat->Option `cq'
 | [],_=>none
 |x::r,k=>if k<g x then some (x,k) else k5 g r `lb'
def js (L:Nat):Nat->`jz'->Nat->Row
 |0,_,_=>[]
 |n+1,f,k=>match k5 (fun x=>num L n `nB') `eu' k with
  |none=>[]
  |some z=>z.1::js L n `nC' z.2
def pM (g:Nat->Nat) (y:Option Nat×Nat) (x:Nat):Option Nat×Nat:=match y.1 with
 |some _=>y
 |none=>if y.2<g x then(some x,y.2) else(none,y.2 - g x)
def BR (g:Nat->Nat) (x:Nat):∀(l:List Nat) (k:Nat),l.foldl (pM g) (some x,k)=(some x,k)
 | [],_=>rfl
 |_::l,k=>BR g x l k
def Ck (g:Nat->Nat):∀(l:List Nat) (k:Nat),(∀z,k5 g l k=some z->l.foldl (pM g) (none,k)=(some z.1,z.2))/\(k5 g l k=none->(l.foldl (pM g) (none,k)).1=none)
 | [],k=>#[fun z h=>(by cases h),fun _=>rfl]
 |x::l,k=>by
  rw[dI];by_cases h:k<g x
  ·have e1:k5 g (x::l) k=some (x,k):=aD h;have e2:pM g (none,k) x=(some x,k):=aD h;rw[e1,e2,BR];exact#[fun z e=>(by cases e;rfl),fun e=>`dt']
  ·have e1:k5 g (x::l) k=k5 g l `lb':=au h;have e2:pM g (none,k) x=(none,k - g x):=au h;rw[e1,e2];exact Ck g l `lb'
def uQ {g h:Nat->Nat}:∀(l:List Nat) (k:Nat),(∀x∈l,g x=h x)->k5 g l k=k5 h l k
 | [],_,_=>rfl
 |x::l,k,e=>by
  show(if k<g x then some (x,k) else k5 g l `lb')=(if k<h x then some (x,k) else k5 h l (k - h x))
  rw[e x `dG',uQ l _ fun y hy=>e y `hg']
def vi {g:Nat->Nat}:∀{l:List Nat} {k:Nat} {z:Nat×Nat},k5 g l k=some z->z.1∈l/\z.2<g z.1
 | [],_,_,h=>by cases h
 |x::l,k,z,h=>by
  by_cases c:k<g x
  ·have e1:k5 g (x::l) k=some (x,k):=aD c;show 168;exact#[aI ..,c]
  ·have e1:k5 g (x::l) k=k5 g l `lb':=au c;rw[e1] at h;have:=vi h;exact#[aK _ this.1,this.2]
def tV {g:Nat->Nat}:∀{l:List Nat} {k:Nat},k<Wqarao.sum (l.map g)->∃z,k5 g l k=some z
 | [],k,h=>by exact absurd h (ip _)
 |x::l,k,h=>by
  rw[bw,sum_cons] at h;by_cases c:k<g x
  ·exact#[_,aD c]
  ·have e1:k5 g (x::l) k=k5 g l `lb':=au c;rw[e1];exact tV `mt
section
variable {K:Kind}
structure On (K:Kind) (i:Nat) (p:Place):Prop where
 at_:At K i p
 inv:cB K p
def On.start:On K 0 K.start:=#[EE K,jK K]
def On.step {i x:Nat} {p q:Place} (h:On K i p) (e:K.step p i x=some q):On K (i+1) q/\x<K.letters:=
 #[#[Ru h.at_ (kG K h.inv e).2 e,(kG K h.inv e).1],(kG K h.inv e).2]
def Oq {i n x:Nat} {p:Place} (h:On K i p) (hn:i+n+1=K.len):(opened K).by_ i p x=num K.letters n (tl `c3' x):=by
 show((K.step p i x).map ((opened K).at_ (i+1))).getD 0=_;cases e:K.step p i x with
 |none=>
  rw[kX e,nM];rfl
 |some q=>
  rw[k7 e];show(opened K).at_ (i+1) q=_;rw[Iq `mt (h.step e).1.at_,show K.len - (i+1)=n by omega]
def y4 (L:Nat):∀(n:Nat) (r:Row),iL L n nil r=(0,0)
 |n,[]=>by
  rw[wS,nM]
 |0,_::_=>rfl
 |n+1,x::r=>by
  have e:qc L n nil x=0:=yU _ fun y hy=>by
   obtain⟨x,_,rfl⟩:=aV.mp hy;exact nM L n
  show(if x<L then(qc L n nil x+(iL L n nil r).1,(iL L n nil r).2) else(qc L n nil x,0))=_;rw[y4 L n r,e]
  split<;>rfl
def Gk:∀(r:Row) {i n:Nat} {p:Place},On K i p->i+n=K.len->r.length<=n->beginningFrom `jl' i p r=iL K.letters n `c3' r
 | [],i,n,p,h,hn,_=>by
  rw[FA,wS,Iq `mt h.at_,show K.len - i=n by omega]
 |x::r,i,0,p,h,hn,hr=>by
  rw[aF] at hr;omega
 |x::r,i,n+1,p,h,hn,hr=>by
  rw[aF] at hr;have e1:Wqarao.sum `cz'=qc K.letters n `c3' x:=by
   refine dH Wqarao.sum (dE fun y _=>?_);exact Oq h `mt
  show(match K.step p i x with
   |none=>(Wqarao.sum `cz',0)
   |some q=>(Wqarao.sum `cz'+(beginningFrom `jl' (i+1) q r).1,(beginningFrom `jl' (i+1) q r).2))=_
  rw[e1];show _=if x<K.letters then(qc K.letters n `c3' x+(iL K.letters n (tl `c3' x) r).1,(iL K.letters n (tl `c3' x) r).2) else(qc K.letters n `c3' x,0)
  cases e:K.step p i x with
  |none=>
   rw[kX e,y4];show(qc K.letters n `c3' x,0)=if x<K.letters then(qc K.letters n `c3' x,0) else(qc K.letters n `c3' x,0)
   rw[ite_self]
  |some q=>
   have h2:=h.step e;rw[aD h2.2,k7 e,<-Gk r h2.1 `mt `mt]
def rR {r:Row} (hr:r.length<=K.len):(opened K).beginning r=iL K.letters K.len (cG K) r:=
 Gk r On.start `mt hr
def EY:∀(n:Nat) {i k:Nat} {p:Place},On K i p->i+n=K.len->k<num K.letters n `c3'->rowFrom `jl' n i p k=js K.letters n `c3' k
 |0,_,_,_,_,_,_=>rfl
 |n+1,i,k,p,h,hn,hk=>by
  have hk:=hk;obtain⟨z,ez⟩:=tV hk;have e0:k5 `kg' (List.range K.letters) k=some z:=by
   rw[<-ez];exact uQ _ _ fun x _=>Oq h `mt
  have e1:=(Ck _ _ _).1 z e0;have e2:rowFrom `jl' (n+1) i p k=match((List.range K.letters).foldl (pM `kg') (none,k)).1 with
   |none=>[]
   |some x=>x::rowFrom `jl' n (i+1) ((K.step p i x).getD []) ((List.range K.letters).foldl (pM `kg') (none,k)).2:=rfl
  rw[e2,e1];have e3:js K.letters (n+1) `c3' k=z.1::js K.letters n (tl `c3' z.1) z.2:=by
   conv=>lhs;unfold js
   rw[ez]
  rw[e3];have zm:=(vi ez).2;cases e:K.step p i z.1 with
  |none=>
   rw[kX e,nM] at zm;exact absurd zm (ip _)
  |some q=>
   have h2:=h.step e;rw[k7 e] at zm;rw[k7 e,<-EY n h2.1 `mt zm];show z.1::rowFrom `jl' n (i+1) ((K.step p i z.1).getD []) z.2=_;rw[e];rfl
def Aj (k:Nat):(opened K).row k=if k<num K.letters K.len (cG K) then some (js K.letters K.len (cG K) k) else none:=by
 unfold Opened.row;rw[uf];by_cases h:k<num K.letters K.len (cG K)
 ·rw[aD h,aD h];exact dH some (EY K.len On.start `mt h)
 ·rw[au h,au h]
def L0 {r:Row} (hr:r.length=K.len):(opened K).number r=match(List.range K.len).find? fun(i:Nat)=>(iL K.letters K.len (cG K) `dT').2==0 with
 |some i=>.error i
 |none=>if(iL K.letters K.len (cG K) r).2=0 then .error 0 else .ok (iL K.letters K.len (cG K) r).1:=by
 unfold Opened.number;have e:(fun(i:Nat)=>((opened K).beginning `dT').2==0)=fun(i:Nat)=>(iL K.letters K.len (cG K) `dT').2==0:=by
  funext i
  rw[rR `eV']
 rw[e,rR `mt];rfl
end
def Om {K:Kind}:∀(r:Row) {i:Nat} {p:Place},cB K p->cR K i p r=true->∀x∈r,x<K.letters
 | [],_,_,_,_,x,hx=>by cases hx
 |y::r,i,p,h,e,x,hx=>by
  unfold cR at e;cases e1:K.step p i y with
  |none=>rw[e1] at e;cases e
  |some q=>
   rw[e1] at e;have:=kG K h e1;rcases bh.mp hx with rfl|hx
   ·exact this.2
   ·exact Om r this.1 e x hx
def DR {K:Kind} {r:Row} (e:cG K r=true):∀x∈r,x<K.letters:=Om r (jK K) e
def GG (L n:Nat) (f g:Row->Bool):Prop:=∀r:Row,r.length=n->(∀x∈r,x<L)->f r=g r
def GG.tl {L n:Nat} {f g:Row->Bool} (h:GG L (n+1) f g) {x:Nat} (hx:x<L):GG L n `nB' (tl g x):=fun r hr hl=>
 h (x::r) (by rw[aF,hr]) fun y hy=>by
  show 114
  ·exact hx
  ·exact hl y hy
def GG.num {L:Nat}:∀{n:Nat} {f g:Row->Bool},GG L n f g->num L n f=num L n g
 |0,f,g,h=>by
  show `gP'=(if g []=true then 1 else 0)
  rw[h [] rfl fun x hx=>by cases hx]
 |n+1,f,g,h=>by
  exact dH Wqarao.sum (dE fun x hx=>GG.num (h.tl (aL.mp hx)))
def GG.low {L n:Nat} {f g:Row->Bool} (h:GG L (n+1) f g) (x:Nat):qc L n f x=qc L n g x:=
 dH Wqarao.sum (dE fun _ hy=>GG.num (h.tl (bD (aL.mp hy) (Nat.min_le_right _ _))))
def GG.beg {L:Nat}:∀(r:Row) {n:Nat} {f g:Row->Bool},GG L n f g->iL L n f r=iL L n g r
 | [],n,f,g,h=>by
  rw[wS,wS,h.num]
 |_::_,0,_,_,_=>rfl
 |x::r,n+1,f,g,h=>by
  show(if x<L then(qc L n f x+(iL L n (RR.tl f x) r).1,(iL L n (RR.tl f x) r).2) else(qc L n f x,0))=(if x<L then(qc L n g x+(iL L n (RR.tl g x) r).1,(iL L n (RR.tl g x) r).2) else(qc L n g x,0))
  rw[h.low x];by_cases hx:x<L
  ·rw[aD hx,aD hx,GG.beg r (h.tl hx)]
  ·rw[au hx,au hx]
def GG.row {L:Nat}:∀{n:Nat} {f g:Row->Bool} (k:Nat),GG L n f g->js L n f k=js L n g k
 |0,_,_,_,_=>rfl
 |n+1,f,g,k,h=>by
  unfold js;have e:k5 `f8' `eu' k=k5 `mc' `eu' k:=uQ _ _ fun x hx=>(h.tl (aL.mp hx)).num;rw[e];cases e2:k5 `mc' `eu' k with
  |none=>rfl
  |some z=>
   show z.1::js L n `l1' z.2=z.1::js L n (RR.tl g z.1) z.2;rw[GG.row z.2 (h.tl (aL.mp (vi e2).1))]
def Fl (a b:Kind):∀(r:Row) (i:Nat) (p q:Place),cR `jw' i `d6' r=(cR a i p r&&cR b i q r)
 | [],i,p,q=>by
  show(((first `d6').any a.ends)&&((second `d6').any b.ends))=(a.ends p&&b.ends q)
  rw[ln,jX];rfl
 |x::r,i,p,q=>by
  have e:(Kind.both a b).step `d6' i x=match a.step p i x,b.step q i x with
   |some p,some q=>some `d6'
   |_,_=>none:=by
   conv=>lhs;unfold Kind.step
   rw[ln,jX];rfl
  unfold cR;rw[e];cases e1:a.step p i x with
  |none=>rfl
  |some p'=>
   cases e2:b.step q i x with
   |none=>exact(hU _).symm
   |some q'=>exact Fl a b r (i+1) p' q'
def BI (a b:Kind) (r:Row):cG `jw' r=(cG a r&&cG b r):=Fl a b r 0 _ _
def uC (a b:Kind):∀(r:Row) (i:Nat) (p q:Option Place),cR `he' i (two p q) r=((p.any fun p=>cR a i p r)||(q.any fun q=>cR b i q r))
 | [],i,p,q=>by
  show(Kind.either a b).ends _=_;unfold Kind.ends;rw[ln,jX];rfl
 |x::r,i,p,q=>by
  have e:(Kind.either a b).step (two p q) i x=match p.bind fun(p:Place)=>a.step p i x,q.bind fun(p:Place)=>b.step p i x with
   |none,none=>none
   |p,q=>some (two p q):=by
   conv=>lhs;unfold Kind.step
   rw[ln,jX]
   all_goals rfl
  have ea:(p.any fun p=>cR a i p (x::r))=((p.bind fun(p:Place)=>a.step p i x).any fun p=>cR a (i+1) p r):=by
   cases p with
   |none=>rfl
   |some p=>
    show cR a i p (x::r)=_
    conv=>lhs;unfold cR
    show _=(a.step p i x).any _;cases a.step p i x<;>rfl
  have eb:`mD'=`fv':=by
   cases q with
   |none=>rfl
   |some p=>
    show cR b i p (x::r)=_
    conv=>lhs;unfold cR
    show _=(b.step p i x).any _;cases b.step p i x<;>rfl
  rw[ea,eb]
  conv=>lhs;unfold cR
  rw[e];cases e1:p.bind fun(p:Place)=>a.step p i x with
  |none=>
   cases e2:q.bind fun(p:Place)=>b.step p i x with
   |none=>rfl
   |some q'=>exact uC a b r (i+1) none (some q')
  |some p'=>exact uC a b r (i+1) (some p') _
def xt (a b:Kind) (r:Row):cG `he' r=(cG a r||cG b r):=uC a b r 0 _ _
def FT (a b:Kind):∀(r:Row) (i:Nat) (p:Place) (q:Option Place),cR `hM' i (two (some p) q) r=(cR a i p r&& !(q.any fun q=>cR b i q r))
 | [],i,p,q=>by
  show(Kind.less a b).ends _=_;unfold Kind.ends;rw[ln,jX];rfl
 |x::r,i,p,q=>by
  have e:(Kind.less a b).step (two (some p) q) i x=match a.step p i x with
   |none=>none
   |some p=>some (two (some p) (q.bind fun(q:Place)=>b.step q i x)):=by
   conv=>lhs;unfold Kind.step
   rw[ln,jX];rfl
  have eb:`mD'=`fv':=by
   cases q with
   |none=>rfl
   |some p=>
    show cR b i p (x::r)=_
    conv=>lhs;unfold cR
    show _=(b.step p i x).any _;cases b.step p i x<;>rfl
  rw[eb];have ea:cR a i p (x::r)=match a.step p i x with
   |none=>false
   |some q=>cR a (i+1) q r:=by
   conv=>lhs;unfold cR
   try rfl
  rw[ea]
  conv=>lhs;unfold cR
  rw[e];cases e1:a.step p i x with
  |none=>rfl
  |some p'=>exact FT a b r (i+1) p' _
def t8 (a b:Kind) (r:Row):cG `hM' r=(cG a r&& !cG b r):=FT a b r 0 _ (some b.start)
def CA (a b:Kind):∀(r:Row) (i:Nat) (q:Place),cR `ci' (a.len+i) (1::q) r=cR b i q r
 | [],i,q=>rfl
 |x::r,i,q=>by
  have e:(Kind.then_ a b).step (1::q) (a.len+i) x=(b.step q i x).map fun(p:Place)=>1::p:=by
   show(b.step q (a.len+i - a.len) x).map _=_;rw[Nat.add_sub_cancel_left]
  unfold cR;rw[e];cases e1:b.step q i x with
  |none=>rfl
  |some q'=>exact CA a b r (i+1) q'
def Cw (a b:Kind):∀(n:Nat) (r s:Row) (i:Nat) (p:Place),i+n=a.len->r.length=n->s.length=b.len->cR `ci' i (0::p) (r++s)=(cR a i p r&&cG b s)
 |0,r,s,i,p,hi,hr,hs=>by
  have er:=bV.mp hr;subst er;have hi:=hi;subst hi;rw[iq];cases s with
  |nil=>
   have hb:=hs.symm;show(a.ends p&&(b.len==0&&b.ends b.start))=(a.ends p&&b.ends b.start)
   rw[hb];rfl
  |cons x s=>
   have e:(Kind.then_ a b).step (0::p) (a.len+0) x=if a.ends p=true then(b.step b.start 0 x).map fun(p:Place)=>1::p else none:=by
    show(if a.len+0<a.len then _ else _)=_;rw[au `mt]
   show cR `ci' (a.len+0) (0::p) (x::s)=(a.ends p&&cG b (x::s))
   conv=>lhs;unfold cR
   rw[e];cases a.ends p with
   |false=>rfl
   |true=>
    rw[aD rfl,dG];unfold cG
    conv=>rhs;unfold cR
    cases e1:b.step b.start 0 x with
    |none=>rfl
    |some q'=>exact CA a b s 1 q'
 |n+1,[],s,i,p,hi,hr,hs=>by cases hr
 |n+1,x::r,s,i,p,hi,hr,hs=>by
  have e:(Kind.then_ a b).step (0::p) i x=(a.step p i x).map fun(p:Place)=>0::p:=by
   show(if i<a.len then _ else _)=_;rw[aD `mt]
  show cR `ci' i (0::p) (x::(r++s))=(cR a i p (x::r)&&cG b s)
  unfold cR;rw[e];cases e1:a.step p i x with
  |none=>rfl
  |some q'=>exact Cw a b n r s (i+1) q' `mt (by simpa using hr) hs
def CF (a b:Kind) {r s:Row} (hr:r.length=a.len) (hs:s.length=b.len):cG `ci' (r++s)=(cG a r&&cG b s):=
 Cw a b a.len r s 0 _ `mt hr hs
def il:Row->Row->Bool
 |y::p,x::r=>y==x&&il p r
 |_,_=>true
def AE (a:Kind) (p:Row):∀(r:Row) (i:Nat) (l:Place),cR `e3' i l r=(il `ft' r&&cR a i l r)
 | [],i,l=>by
  show a.ends l=(il `ft' []&&a.ends l)
  have:il `ft' []=true:=by cases p.drop i<;>rfl
  rw[this,dG]
 |x::r,i,l=>by
  have e:(Kind.begins a p).step l i x=if p.getD i x=x then a.step l i x else none:=rfl;have h2:il `ft' (x::r)=(decide (p.getD i x=x)&&il (p.drop (i+1)) r):=by
   by_cases hi:i<p.length
   ·rw[eJ hi];rw[ay,ao hi];rfl
   ·show 193
    have:il [] r=true:=by cases r<;>rfl
    rw[this];simp
  rw[h2];unfold cR;rw[e];by_cases c:p.getD i x=x
  ·rw[aD c];simp only[bp c,dG];cases e1:a.step l i x with
   |none=>exact(hU _).symm
   |some q=>exact AE a p r (i+1) q
  ·rw[au c];simp only[bS c,dS]
def xz (a:Kind) (p r:Row):cG `e3' r=(il p r&&cG a r):=AE a p r 0 _
def Bt (f:Row->Bool) (r:Row):Row->Bool:=fun s=>f (r++s)
def Lg (K:Kind):Row->Bool:=fun r=>decide (r.length=K.len)&&cG K r
def NZ {K:Kind} {r:Row}:Lg K r=true↔r.length=K.len/\cG K r=true:=by
 unfold Lg;simp
def cut (n:Nat) (f:Row->Bool):Row->Bool:=fun r=>decide (r.length=n)&&f r
def C5 (K:Kind):Nat->Place->Row->Option Place
 |_,p,[]=>some p
 |i,p,x::r=>(K.step p i x).bind fun q=>C5 K (i+1) q r
def FS (K:Kind):∀(r s:Row) (i:Nat) (p:Place),cR K i p (r++s)=(C5 K i p r).any fun q=>cR K `nu' q s
 | [],s,i,p=>rfl
 |x::r,s,i,p=>by
  have e:cR K i p (x::r++s)=match K.step p i x with
   |none=>false
   |some q=>cR K (i+1) q (r++s):=by
   conv=>lhs;unfold cR
   try rfl
  rw[e];show _=((K.step p i x).bind fun q=>C5 K (i+1) q r).any _;cases K.step p i x with
  |none=>rfl
  |some q=>
   show cR K (i+1) q (r++s)=(C5 K (i+1) q r).any _;rw[FS K r s (i+1) q,aF,show i+1+r.length=i+`ny' by omega]
def rH {K:Kind} {G:Nat->Place->Prop} (hs:∀i p x q,G i p->K.step p i x=some q->G (i+1) q):∀(r:Row) {i:Nat} {p q:Place},G i p->C5 K i p r=some q->G `nu' q
 | [],i,p,q,h,e=>by
  cases e;exact h
 |x::r,i,p,q,h,e=>by
  have e:(K.step p i x).bind (fun q=>C5 K (i+1) q r)=some q:=e;cases e1:K.step p i x with
  |none=>rw[e1] at e;cases e
  |some p'=>
   rw[e1] at e;have:=rH hs r (hs i p x p' h e1) e;rw[aF,show i+`ny'=i+1+r.length by omega];exact this
def qd (f:Row->Bool) (n R t:Nat):Prop:=∀i,i<=n->∃(W:List Row) (T:List (Row->Bool)),W.length<=R/\T.length<=t/\nil∈T/\∀r:Row,r.length=i->r∈W\/Bt f r∈T
def qd.mono {f:Row->Bool} {n R t R' t':Nat} (h:qd f n R t) (h1:R<=R') (h2:t<=t'):qd f n R' t':=fun i hi=>by
 obtain⟨W,T,a,b,d,c⟩:=h i hi;exact#[W,T,aU a h1,aU b h2,d,c]
def uK {K:Kind} {N:Nat} (P:Nat->List Place) (hN:∀i,(P i).length<=N) (h:∀r q,C5 K 0 K.start r=some q->q∈P r.length):qd (Lg K) K.len 0 (N+1):=fun i hi=>by
 refine#[[],nil::(P i).map fun q=>cut (K.len - i) (cR K i q),aN _,by rw[aF,ae];exact nq (hN i),aI ..,fun r hr=>Or.inr ?_];subst hr;have e:Bt (Lg K) r=(fun s:Row=>decide `g7'&&(C5 K 0 K.start r).any fun q=>cR K r.length q s):=by
  funext s
  show(decide `jL'&&cG K (r++s))=_;have e1:decide `jL'=decide `g7':=by
   rw[aE];show 190
  rw[e1];unfold cG;rw[FS,cE]
 rw[e];cases e2:C5 K 0 K.start r with
 |none=>
  have:(fun s:Row=>decide `g7'&&(none:Option Place).any fun q=>cR K r.length q s)=nil:=by
   funext s
   exact hU _
  rw[this];exact aI ..
 |some q=>
  refine aK _ (aV.mpr #[q,h r q e2,?_])
  funext s
  rfl
def LH (L:Nat):Nat->`jz'->List Row
 |0,f=>if f []=true then[[]] else[]
 |n+1,f=>(List.range L).flatMap fun x=>(LH L n `nB').map fun r=>x::r
def pV {α β:Type} (g:α->List β):∀l:List α,(l.flatMap g).length=Wqarao.sum (l.map fun x=>(g x).length)
 | []=>rfl
 |x::l=>by rw[mG,aE,bw,sum_cons,pV g l]
def ql (L:Nat):∀(n:Nat) (f:Row->Bool),(LH L n f).length=num L n f
 |0,f=>by
  show(if f []=true then[[]] else[]).length=`gP'
  split<;>rfl
 |n+1,f=>by
  show((List.range L).flatMap _).length=Wqarao.sum _;rw[pV];refine dH Wqarao.sum (dE fun x _=>?_);rw[ae,ql L n]
def mem_allR {L:Nat}:∀{n:Nat} {f:Row->Bool} {r:Row},r∈LH L n f↔r.length=n/\(∀x∈r,x<L)/\f r=true
 |0,f,r=>by
  show r∈(if f []=true then[[]] else[])↔_;by_cases h:f []=true
  ·rw[aD h,cT]
   constructor
   ·rintro rfl;exact#[rfl,fun x hx=>(by cases hx),h]
   ·rintro⟨h1,_⟩;exact bV.mp h1
  ·rw[au h]
   constructor
   ·intro z;cases z
   ·rintro⟨h1,_,h3⟩;rw[bV.mp h1] at h3;exact absurd h3 h
 |n+1,f,r=>by
  show r∈(List.range L).flatMap _↔_;rw[jF]
  constructor
  ·rintro⟨x,hx,hr⟩;obtain⟨s,hs,rfl⟩:=aV.mp hr;obtain⟨h1,h2,h3⟩:=mem_allR.mp hs;exact⟨by rw[aF,h1],fun y hy=>(by
    show 114
    ·exact aL.mp hx
    ·exact h2 y hy),h3⟩
  ·rintro⟨h1,h2,h3⟩;cases r with
   |nil=>cases h1
   |cons x s=>
    refine#[x,aL.mpr (h2 x `dG'),aV.mpr #[s,mem_allR.mpr #[by simpa using h1,fun y hy=>h2 y `hg',h3],rfl]]
def vY {K:Kind} {R:Nat} (h:num K.letters K.len (cG K)<=R):qd (Lg K) K.len R 1:=fun i hi=>by
 refine#[(LH K.letters K.len (cG K)).map (List.take i),[nil],by rw[ae,ql];exact h,ax _,aI ..,fun r hr=>?_];by_cases e:Bt (Lg K) r=nil
 ·exact Or.inr (by rw[e];exact aI ..)
 ·left
  have:∃s,Lg K (r++s)=true:=by
   apply Classical.byContradiction;intro hn;refine e (funext fun s=>?_);show Lg K (r++s)=false;cases q:Lg K (r++s) with
   |false=>rfl
   |true=>exact absurd #[s,q] hn
  obtain⟨s,hs⟩:=this;have KP:=NZ.mp hs;refine aV.mpr #[r++s,mem_allR.mpr #[KP.1,DR KP.2,KP.2],?_];rw[<-hr,List.take_left'];rfl
def qd.flat {f:Row->Bool} {n R t:Nat} (h:qd f n R t):qd f n 0 (R+t):=fun i hi=>by
 obtain⟨W,T,a,b,d,c⟩:=h i hi;refine#[[],W.map (Bt f)++T,ax _,by rw[aE,ae];omega,b3 _ d,fun r hr=>Or.inr ?_];rcases c r hr with q|q
 ·exact eI _ (aV.mpr #[r,q,rfl])
 ·exact b3 _ q
def vg {α β:Type} (l:List α) (m:List β):List (α×β):=l.flatMap fun a=>m.map fun b=>(a,b)
def pT {α β:Type} (m:List β):∀l:List α,(vg l m).length=l.length*m.length
 | []=>by rw[ja,Nat.zero_mul];rfl
 |a::l=>by
  show(m.map _++vg l m).length=_;rw[aE,ae,pT m l,aF,add_mul,qh,jh]
def sR {α β:Type} {l:List α} {m:List β} {a:α} {b:β} (h1:a∈l) (h2:b∈m):(a,b)∈vg l m:=
 jF.mpr #[a,h1,aV.mpr #[b,h2,rfl]]
def qd.join {f g:Row->Bool} {n Ra Rb ta tb:Nat} (o:Bool->Bool->Bool) (ho:o false false=false) (hf:qd f n Ra ta) (hg:qd g n Rb tb):qd (fun r=>o (f r) (g r)) n (Ra+Rb) (ta*tb):=fun i hi=>by
 show 152;refine#[W++W',(vg T T').map fun z=>fun s=>o (z.1 s) (z.2 s),by rw[aE];omega,by rw[ae,pT];exact hJ b b',aV.mpr #[(nil,nil),sR d d',funext fun _=>ho],fun r hr=>?_];rcases c r hr with q|q
 ·exact Or.inl (eI _ q)
 ·rcases c' r hr with q'|q'
  ·exact Or.inl (b3 _ q')
  ·exact Or.inr (aV.mpr #[(Bt f r,Bt g r),sR q q',rfl])
def vG {α:Type}:∀{l m:List α},l.Nodup->(∀x∈l,x∈m)->l.length<=m.length
 | [],m,_,_=>aN _
 |x::l,m,nd,h=>by
  obtain⟨a,b,e⟩:=List.append_of_mem (h x `dG');have hx:=fk.mp nd;have ih:=vG (m:=a++b) hx.2 (fun y hy=>by
   have hy':=h y `hg';rw[e] at hy';rcases eN.mp hy' with q|q
   ·exact eI _ q
   ·rcases bh.mp q with rfl|q
    ·exact absurd hy hx.1
    ·exact b3 _ q)
  rw[e,aF,aE,aF];rw[aE] at ih;omega
def RS {κ:Type} {f g:Row->Bool} {n i Ra Rb ta tb:Nat} {MW:List κ} (nd:MW.Nodup) (hi:i<=n) (hf:qd f n Ra ta) (hg:qd g n Rb tb) (D:κ->`jz'->`jz'->Prop)
 (one:∀k k' a b,D k a b->D k' a b->k=k') (h:∀k∈MW,∃r:Row,r.length=i/\D k (Bt f r) (Bt g r)):MW.length<=Ra+Rb+ta*tb:=by
 show 152;have all:∀k∈MW,∃z∈(W++W').map (fun r=>(Bt f r,Bt g r))++vg T T',D k z.1 z.2:=fun k hk=>by
  obtain⟨r,hr,hd⟩:=h k hk;refine#[(Bt f r,Bt g r),?_,hd];rcases c r hr with q|q
  ·exact eI _ (aV.mpr #[r,eI _ q,rfl])
  ·rcases c' r hr with q'|q'
   ·exact eI _ (aV.mpr #[r,b3 _ q',rfl])
   ·exact b3 _ (sR q q')
 have inj:∀(ks:List κ) (zs:List ((Row->Bool)×(Row->Bool))),ks.Nodup->(∀k∈ks,∃z∈zs,D k z.1 z.2)->ks.length<=zs.length:=by
  intro ks zs
  induction zs generalizing ks with
  |nil=>
   intro _ q;cases ks with
   |nil=>exact ax _
   |cons k ks=>
    obtain⟨z,hz,_⟩:=q k `dG';cases hz
  |cons z zs ih=>
   intro nd q;by_cases hz:∃k,k∈ks/\D k z.1 z.2
   ·obtain⟨k,hk,hd⟩:=hz;obtain⟨l,m,e⟩:=List.append_of_mem hk;subst e;have NG:=(List.perm_middle.nodup_iff).mp nd;have nd2:=fk.mp NG;have:=ih (l++m) nd2.2 fun k' KW=>by
     obtain⟨z',Ta,wn⟩:=q k' (by
      rcases eN.mp KW with u|u
      ·exact eI _ u
      ·exact b3 _ (aK _ u))
     rcases bh.mp Ta with rfl|Ta
     ·exact absurd (one _ _ _ _ wn hd▸KW) nd2.1
     ·exact#[z',Ta,wn]
    rw[aE,aF,aF];rw[aE] at this;omega
   ·have:=ih ks nd fun k hk=>by
     obtain⟨z',Ta,wn⟩:=q k hk;rcases bh.mp Ta with rfl|Ta
     ·exact absurd #[k,hk,wn] hz
     ·exact#[z',Ta,wn]
    rw[aF];omega
 have:=inj MW _ nd all;rw[aE,ae,aE,pT] at this;have hm:T.length*T'.length<=ta*tb:=hJ b b';omega
def Sz (n:Nat):List Place:=(List.range n).map fun x=>[x]
def Pd {n x:Nat} (h:x<n):[x]∈Sz n:=aV.mpr #[x,aL.mpr h,rfl]
def Gw (n:Nat):(Sz n).length=n:=by unfold Sz;rw[ae,bv]
def oh {K:Kind} {N:Nat} (G:Place->Prop) (h0:G K.start) (hs:∀i p x q,G p->K.step p i x=some q->G q) (hG:∀p,G p->p=[]\/∃x,x<N/\p=[x]):qd (Lg K) K.len 0 (N+2):=
 uK (fun _=>[]::Sz N) (fun _=>by rw[aF,Gw];exact ax _) fun r q e=>by
  have:=rH (fun i p x q=>hs i p x q) r h0 e;rcases hG q this with rfl| ⟨x,hx,rfl⟩
  ·exact aI ..
  ·exact aK _ (Pd hx)
def Md {n k:Nat}:qd (Lg `na') n 0 2:=
 oh (fun p=>p=[]) rfl (fun i p x q hp e=>by
  have:=(hZ e).2;cases this;exact hp) fun p hp=>Or.inl hp
def Gy {n k:Nat} (hn:n<=20):qd (Lg `kL') k 0 23:=
 oh (fun p=>∃x,x<=n/\p=[x]) ⟨0,aN _,rfl⟩ (fun i p x q hp e=>by
  have:=hZ e;cases this.2;exact#[_,this.1.1,rfl]) fun p ⟨x,hx,e⟩=>Or.inr `eL'
def PU {n k:Nat} (hn:n<=20):qd (Lg (.bags n k)) k 0 23:=
 oh (fun p=>∃x,x<=n/\p=[x]) ⟨0,aN _,rfl⟩ (fun i p x q hp e=>by
  have:=hZ e;cases this.2;exact#[_,eo this.1.1,rfl]) fun p ⟨x,hx,e⟩=>Or.inr `eL'
def Ix {cf n jd most:Nat} (ht:cf<=200):qd (Lg `i5') n 0 203:=
 oh (fun p=>∃x,x<=cf/\p=[x]) ⟨0,aN _,rfl⟩ (fun i p x q hp e=>by
  have:=dg e;cases this.2;exact `ik') fun p ⟨x,hx,e⟩=>Or.inr `eL'
def HZ {n k:Nat} (hk:k<=12):qd (Lg `lZ') n 0 15:=
 oh (fun p=>∃x,x<=k/\p=[x]) ⟨0,aN _,rfl⟩ (fun i p x q hp e=>by
  obtain⟨y,hy,rfl⟩:=hp;show 81;refine#[_,?_,rfl];have h1:=this.1;have:([y]:List Nat).getD 0 0=y:=rfl;rw[this] at h1⊢
  omega) fun p ⟨x,hx,e⟩=>Or.inr `eL'
def K7 {n iZ e:Nat} (hh:iZ<=20):qd (Lg (.paths n iZ e)) n 0 23:=
 oh (fun p=>∃x,x<=iZ/\p=[x]) ⟨0,aN _,rfl⟩ (fun i p x q hp e=>by
  obtain⟨y,hy,rfl⟩:=hp;unfold Kind.step at e;have h0:([y]:List Nat).getD 0 0=y:=rfl;rw[h0] at e;by_cases h1:x=1
  ·rw[aD h1] at e;show 81;exact `ik'
  ·rw[au h1] at e;have:=hZ e;have:=dg this.2;cases this.2;exact `ik') fun p ⟨x,hx,e⟩=>Or.inr `eL'
def Br {next:List Nat} {jP k a n:Nat} (h1:1<=jP) (h8:jP<=8):qd (Lg (.automaton next jP k a n)) n 0 10:=
 oh (fun p=>∃x,x<jP/\p=[x]) ⟨0,h1,rfl⟩ (fun i p x q hp e=>by
  have:=dg e;cases this.2;exact `ik') fun p ⟨x,hx,e⟩=>Or.inr `eL'
def L5 {to:List Nat} {yD n s e:Nat} (h8:yD<=8):qd (Lg (.walks to yD n s e)) (n+1) 0 10:=
 oh (fun p=>p=[]\/∃x,x<yD/\p=[x]) `Cl (fun i p x q hp e=>by
  have:=dg e;cases this.2;exact Or.inr #[_,gJ fun g=>this.1 `nh',rfl]) fun p h=>by
  rcases h with h| ⟨x,hx,e⟩
  ·show 181
  ·exact Or.inr `eL'
def qR:Nat->Nat
 |0=>1
 |n+1=>min 8 (n+1)*qR n
def wQ {m n:Nat} (h:m<=n):qR m<=qR n:=by
 induction h with
 |refl=>exact ax _
 |step _ ih=>exact aU ih (Nat.le_mul_of_pos_left _ `mt)
def vy (g:Nat->Nat) (c:Nat->Bool) (b:Nat):∀l:List Nat,(∀x∈l,c x=false->g x=0)->(∀x∈l,g x<=b)->Wqarao.sum (l.map g)<=l.countP c*b
 | [],_,_=>aN _
 |x::l,h1,h2=>by
  rw[bw,sum_cons];have ih:=vy g c b l (fun y hy=>h1 y `hg') fun y hy=>h2 y `hg';cases e:c x with
  |true=>
   rw[gj e,add_mul,qh];have:=h2 x `dG';omega
  |false=>
   rw[gk (by rw[e];decide),h1 x `dG' e];omega
def wj {K:Kind} (hL8:K.letters<=8) (G:Nat->Place->Prop) (c:Nat->Place->Nat->Bool) (hs:∀i p x q,G i p->K.step p i x=some q->c i p x=true/\G (i+1) q)
 (hc:∀n i p,G i p->i+n+1=K.len->(List.range K.letters).countP (c i p)<=n+1):∀(n i:Nat) (p:Place),G i p->i+n=K.len->num K.letters n `c3'<=qR n
 |0,i,p,_,_=>by
  show(if cR K i p []=true then 1 else 0)<=1
  split<;>omega
 |n+1,i,p,h,hn=>by
  have h8:(List.range K.letters).countP (c i p)<=8:=aU List.countP_le_length (by rw[bv];exact hL8);have h9:=hc n i p h `mt;refine aU (vy _ (c i p) (qR n) _ (fun x _ e=>?_) (fun x _=>?_)) (nQ _ `mt)
  ·cases q:K.step p i x with
   |none=>rw[kX q,nM]
   |some p'=>
    rw[(hs i p x p' h q).1] at e;cases e
  ·cases q:K.step p i x with
   |none=>rw[kX q,nM];exact aN _
   |some p'=>
    rw[k7 q];exact wj hL8 G c hs hc n (i+1) p' (hs i p x p' h q).2 `mt
def Kj:∀{l:List Nat} {x:Nat},l.getD x 0≠0->Wqarao.sum (l.set x (l.getD x 0 - 1))+1=Wqarao.sum l
 | [],x,h=>by
  rw[List.getD_nil] at h;exact absurd rfl h
 |a::l,0,h=>by
  rw[iw] at h⊢
  rw[List.set_cons_zero,sum_cons,sum_cons];omega
 |a::l,x+1,h=>by
  rw[jy] at h⊢
  rw[List.set_cons_succ,sum_cons,sum_cons];have:=Kj h;omega
def BS:∀(l:List Nat) (k:Nat),((List.range l.length).map (· +k)).countP (fun x=>decide (l.getD (x - k) 0≠0))<=Wqarao.sum l
 | [],_=>aN _
 |a::l,k=>by
  rw[aF,List.range_succ_eq_map,bw,eK,sum_cons];have e:(List.range l.length).map ((· +k)∘Nat.succ)=(List.range l.length).map (· +(k+1)):=dE fun x _=>by
   show Nat.succ x+k=x+(k+1)
   omega
  rw[e];have ih:=BS l (k+1);have e2:((List.range l.length).map (· +(k+1))).countP (fun x=>decide ((a::l).getD (x - k) 0≠0))=((List.range l.length).map (· +(k+1))).countP (fun x=>decide (l.getD (x - (k+1)) 0≠0)):=by
   refine List.countP_congr fun x hx=>?_;obtain⟨y,_,rfl⟩:=aV.mp hx;rw[show y+(k+1) - k=y+1 by omega,show y+(k+1) - (k+1)=y by omega,jy]
  by_cases ha:a=0
  ·rw[gk (by rw[show 0+k - k=0 by omega,iw,ha];decide),e2];omega
  ·rw[gj (by rw[show 0+k - k=0 by omega,iw];exact bp ha),e2];omega
def HE (l:List Nat):(List.range l.length).countP (fun x=>decide (l.getD x 0≠0))<=Wqarao.sum l:=by
 have:=BS l 0;rw[List.map_id''] at this
 ·exact this
 ·intro x;rfl
def Fv {c:List Nat} (h8:c.length<=8) (h:Wqarao.sum c<=10):num c.length (Wqarao.sum c) (cG (.orders c))<=qR 10:=by
 refine aU (wj (K:=.orders c) h8 (fun i l=>l.length=c.length/\Wqarao.sum l+i=Wqarao.sum c) (fun _ l x=>decide (l.getD x 0≠0)) `ei' (fun n i p hp hn=>?_) (Wqarao.sum c) 0 c `hI' (cE _)) (wQ h)
 ·show 81;refine#[bp this.1,by rw[eC];exact hp.1,?_];have:=Kj this.1;have:=hp.2;omega
 ·show(List.range c.length).countP _<=_;rw[<-hp.1];refine aU (HE p) ?_;have h1:=hp.2;have h2:i+n+1=Wqarao.sum c:=hn;omega
def wM (n m:Nat):Nat:=(List.range n).countP fun x=> !m.testBit x
def sV:∀{x m:Nat},m.testBit x=false->∀y:Nat,(m+2^x).testBit y=(m.testBit y||decide (y=x))
 |0,m,h,y=>by
  have hm:m%2=0:=by
   rw[np] at h;have:=aj h;omega
  cases y with
  |zero=>
   rw[np,show(m+2^0)%2=1 by rw[Nat.pow_zero];omega];simp
  |succ y=>
   rw[k9,k9,show(m+2^0)/2=m/2 by rw[Nat.pow_zero];omega];simp
 |x+1,m,h,y=>by
  rw[k9] at h;have e:2^(x+1)=2*2^x:=by rw[oK];omega
  cases y with
  |zero=>
   rw[np,np,show(m+2^(x+1))%2=m%2 by rw[e];omega];simp
  |succ y=>
   rw[k9,k9,show(m+2^(x+1))/2=m/2+2^x by rw[e];omega,sV h y];simp
def ER (n:Nat):wM n 0=n:=by
 unfold wM;have:(List.range n).countP (fun x=> !Nat.testBit 0 x)=(List.range n).length:=List.countP_eq_length.mpr fun x _=>by rw[Nat.zero_testBit];rfl
 rw[this,bv]
def xx {p q:Nat->Bool} {x:Nat}:∀{l:List Nat},l.Nodup->x∈l->p x=true->(∀y,q y=(p y&& !decide (y=x)))->l.countP q+1=l.countP p
 | [],_,h,_,_=>by cases h
 |a::l,nd,h,hp,hq=>by
  have NG:=fk.mp nd;by_cases e:a=x
  ·subst e;rw[gj hp,gk (by rw[hq a];simp)]
   congr 1
   refine List.countP_congr fun y hy=>?_;have:y≠a:=fun z=>NG.1 (z▸hy);rw[hq y,bS this];simp
  ·have hx:x∈l:=by
    rcases bh.mp h with z|z
    ·exact absurd z.symm e
    ·exact z
   have ih:=xx NG.2 hx hp hq;have ea:q a=p a:=by rw[hq a,bS e];simp
   cases c:p a with
   |true=>rw[gj c,gj (ea.trans c)];omega
   |false=>rw[gk (p:=p) (by rw[c];decide),gk (by rw[ea,c];decide)];omega
def G1 {n m x:Nat} (hx:x<n) (h:m.testBit x=false):wM n (m+2^x)+1=wM n m:=by
 refine xx cM (aL.mpr hx) (by rw[h];rfl) fun y=>?_;rw[sV h y,Bool.not_or]
def xc {K:Kind} {n:Nat} (hl:K.len=n) (hL:K.letters=n) (h7:n<=7) (h0:K.start.getD 0 0=0) (hs:∀p i x q,K.step p i x=some q->x<n/\(p.getD 0 0).testBit x=false/\q.getD 0 0=p.getD 0 0+2^x):
 num K.letters K.len (cG K)<=qR 7:=by
 refine aU (wj `mt (fun i p=>wM n (p.getD 0 0)+i=n) (fun _ p x=> !(p.getD 0 0).testBit x) `ei' (fun m i p hp hn=>?_) K.len 0 K.start ?_ (cE _)) (wQ `mt)
 ·obtain⟨h1,h2,h3⟩:=hs p i x q e;refine#[by rw[h2];rfl,?_];have:=G1 h1 h2;rw[h3];omega
 ·rw[hL];show wM n (p.getD 0 0)<=m+1;omega
 ·rw[h0,ER];rfl
def vB {n:Nat} (h:n<=7):num n n (cG `ir')<=qR 7:=
 xc (K:=.derangements n) rfl rfl h rfl fun p i x q e=>by
  show 81;exact#[gJ fun z=>this.1 (Or.inl z),c7.mpr fun z=>this.1 (Or.inr (Or.inr z)),rfl]
def DU {n:Nat} (h:n<=7):num n n (cG `nb')<=qR 7:=
 xc (K:=.zigzags n) rfl rfl h rfl fun p i x q e=>by
  show 81;exact `em'
def xW {m:List Nat} {n:Nat} (h:n<=7):num n n (cG (.extensions m n))<=qR 7:=
 xc (K:=.extensions m n) rfl rfl h rfl fun p i x q e=>by
  show 81;exact `em'
def PL (n i:Nat) (h:i<=n):(List.range n).countP `f9'<=n - i:=by
 induction n with
 |zero=>exact aN _
 |succ n ih=>
  rw[eB,List.countP_append];by_cases hi:i<=n
  ·have:=ih hi;have e:[n].countP `f9'<=1:=List.countP_le_length;omega
  ·have hz:(List.range n).countP `f9'=0:=oE.mpr fun x hx=>by
    have:=aL.mp hx;rw[bS `mt];decide
   have hz2:[n].countP `f9'=0:=oE.mpr fun x hx=>by
    rw[cT.mp hx,bS hi];decide
   omega
def Ml (n y:Nat):(List.range n).countP `iP'<=1:=by
 have:∀l:List Nat,l.Nodup->l.countP `iP'<=1:=by
  intro l
  induction l with
  |nil=>intro _;exact aN _
  |cons a l ih=>
   intro nd;have NG:=fk.mp nd;by_cases e:a+1=y
   ·rw[gj (p:=fun x=>decide (x+1=y)) (bp e)];have:l.countP `iP'=0:=oE.mpr fun x hx=>by
     rw[bS (fun z=>NG.1 (by rw[show a=x by omega];exact hx))];decide
    omega
   ·rw[gk (by rw[bS e];decide)];exact ih NG.2
 exact this _ cM
def DO {l q:Place} {i x:Nat} (h:partner l i x=some q):(l.getD i 0≠0->x+1=l.getD i 0)/\(l.getD i 0=0->i<=x):=by
 unfold partner at h;by_cases c:l.getD i 0≠0
 ·rw[aD c] at h;exact#[fun _=>(hZ h).1,fun z=>absurd z c]
 ·rw[au c] at h;have:=dg h;exact#[fun z=>absurd z c,fun _=>by omega]
def vz {K:Kind} {n:Nat} (hl:K.len=n) (hL:K.letters=n) (h7:n<=7) (hs:∀p i x q,K.step p i x=some q->partner p i x=some q):
 num K.letters K.len (cG K)<=qR 7:=by
 refine aU (wj `mt (fun _ _=>True) (fun i p x=>if p.getD i 0≠0 then decide (x+1=p.getD i 0) else decide (i<=x)) `ei' (fun m i p hp hn=>?_) K.len 0 K.start trivial (cE _)) (wQ `mt)
 ·have:=DO (hs p i x q e);refine#[?_,trivial];by_cases c:p.getD i 0≠0
  ·rw[aD c];exact bp (this.1 c)
  ·rw[au c];exact bp (this.2 (Decidable.of_not_not c))
 ·rw[hL];by_cases c:p.getD i 0≠0
  ·simp only[aD c];have:=Ml n (p.getD i 0);omega
  ·simp only[au c];have:=PL n i `mt;omega
def wE {n:Nat} (h:n<=7):num n n (cG `i1')<=qR 7:=
 vz (K:=.involutions n) rfl rfl h fun _ _ _ _ e=>(dg e).2
def Ah {m:List Nat} {n:Nat} (h:n<=7):num n n (cG (.matchings m n))<=qR 7:=
 vz (K:=.matchings m n) rfl rfl h fun _ _ _ _ e=>(dg e).2
def Q:Nat->Nat->Nat
 |r,0=>if r=0 then 1 else 0
 |r,m+1=>Q r m+if h:m+1<=r then Q (r - (m+1)) (m+1) else 0
termination_by r m=>(m,r)
def go (k:Nat):List Nat->List Nat->List Nat
 | [],cR=>cR
 |x::row,cR=>match x+cR.getD (k - 1) 0 with
  |0=>go k row (0::cR)
  |v+1=>go k row ((v+1)::cR)
def tab:Nat->List Nat
 |0=>1::replicate 60 0
 |m+1=>(go (m+1) (tab m) []).reverse
def Sl (k x:Nat) (row cR:List Nat):go k (x::row) cR=go k row ((x+cR.getD (k - 1) 0)::cR):=by
 conv=>lhs;unfold go
 split<;>rename_i h<;>rw[h]
def II (r m:Nat):Q r (m+1)=Q r m+if m+1<=r then Q (r - (m+1)) (m+1) else 0:=by
 conv=>lhs;unfold Q
 by_cases h:m+1<=r
 ·rw[dif_pos h,aD h]
 ·rw[dif_neg h,au h]
def Bb (g:Nat->Nat) (r k:Nat) (hk:1<=k):(((List.range r).map g).reverse).getD (k - 1) 0=if k<=r then g (r - k) else 0:=by
 rw[ay];by_cases h:k<=r
 ·rw[aD h,List.getElem?_reverse (by rw[ae,bv];omega),ae,bv,aR,eZ `mt];show g (r - 1 - (k - 1))=_;rw[show r - 1 - (k - 1)=r - k by omega]
 ·rw[au h,bc (by rw[jx,ae,bv];omega)];rfl
def Ud (m:Nat):∀(n r:Nat),go (m+1) ((range' r n).map fun j=>Q j m) ((List.range r).map fun j=>Q j (m+1)).reverse=((List.range (r+n)).map fun j=>Q j (m+1)).reverse
 |0,r=>rfl
 |n+1,r=>by
  rw[jE,bw,Sl,Bb _ _ _ `mt,<-II];have e:Q r (m+1)::((List.range r).map fun j=>Q j (m+1)).reverse=((List.range (r+1)).map fun j=>Q j (m+1)).reverse:=by
   rw[eB,bj,List.reverse_append];rfl
  rw[e,Ud m n (r+1),show r+1+n=r+(n+1) by omega]
def OV:∀m,tab m=(List.range 61).map fun j=>Q j m
 |0=>by
  have:∀j,Q j 0=if j=0 then 1 else 0:=fun j=>by unfold Q;rfl
  simp only[this];rfl
 |m+1=>by
  show(go (m+1) (tab m) []).reverse=_;have:=Ud m 61 0;rw[<-de,<-OV m] at this;have e:go (m+1) (tab m) []=((List.range (0+61)).map fun j=>Q j (m+1)).reverse:=this;rw[e,nR]
def ZU:(tab 19).all (fun x=>decide (x<=qR 10))=true:=by decide+kernel
def N7 {r m n:Nat} (h:m<=n):Q r m<=Q r n:=by
 induction h with
 |refl=>exact ax _
 |step _ ih=>rw[II];omega
def acw {r m:Nat} (hr:r<=60) (hm:m<=19):Q r m<=qR 10:=by
 refine aU (N7 hm) ?_;have:=eY.mp ZU (Q r 19) (by rw[OV];exact aV.mpr #[r,aL.mpr `mt,rfl]);exact af this
def Uf (r:Nat):∀m,Wqarao.sum ((List.range (m+1)).map fun x=>if x<=r then Q (r - x) x else 0)<=Q r m
 |0=>by
  show Wqarao.sum [if 0<=r then Q (r - 0) 0 else 0]<=_;rw[aD (aN _)];exact jg (cE _)
 |m+1=>by
  rw[eB,bj,r8,II];have ih:=Uf r m;have e:Wqarao.sum ([m+1].map fun x=>if x<=r then Q (r - x) x else 0)=if m+1<=r then Q (r - (m+1)) (m+1) else 0:=cE _;rw[e];omega
def A0 {g h:Nat->Nat}:∀l:List Nat,(∀x∈l,g x<=h x)->Wqarao.sum (l.map g)<=Wqarao.sum (l.map h)
 | [],_=>ax _
 |x::l,e=>by
  rw[bw,bw,sum_cons,sum_cons];have:=e x `dG';have:=A0 l fun y hy=>e y `hg';omega
def Df (g:Nat->Nat) {m n:Nat} (h:m<=n) (hz:∀x,m<=x->g x=0):Wqarao.sum ((List.range n).map g)<=Wqarao.sum ((List.range m).map g):=by
 induction h with
 |refl=>exact ax _
 | @step k hk ih=>
  rw[eB,bj,r8];have:Wqarao.sum ([k].map g)=0:=by
   show 0+g k=0;rw[hz k hk]
  omega
def CH {cf n most:Nat}:∀(k i:Nat) (a s:Nat),a<=most->s<=cf->num `kt' k (cR `et' i [a,s])<=Q (cf - s) a
 |0,i,a,s,ha,hs=>by
  show(if(Kind.parts cf n most).ends [a,s]=true then 1 else 0)<=_;have e:(Kind.parts cf n most).ends [a,s]=(s==cf):=rfl;rw[e];by_cases h:s=cf
  ·rw[h,lc];refine aU ?_ (N7 (aN a));have:Q 0 0=1:=by unfold Q;rfl
   rw[this]
   split<;>omega
  ·rw[au `ew'];exact aN _
 |k+1,i,a,s,ha,hs=>by
  have key:∀x,num `kt' k (tl (cR `et' i [a,s]) x)<=(if x<=a then if x<=cf - s then Q (cf - s - x) x else 0 else 0):=fun x=>by
   have e:(Kind.parts cf n most).step [a,s] i x=if a<x\/cf<s+x then none else some [x,s+x]:=rfl;by_cases c:a<x\/cf<s+x
   ·rw[aD c] at e;rw[kX e,nM];exact aN _
   ·rw[au c] at e;rw[k7 e,aD `mt,aD `mt,show cf - s - x=cf - (s+x) by omega];exact CH k (i+1) x (s+x) `mt `mt
  refine aU (A0 _ fun x _=>key x) ?_;refine aU (Df _ (m:=a+1) `mt fun x hx=>au `mt) ?_;refine aU (A0 _ fun x hx=>?_) (Uf (cf - s) a);rw[aD (by have:=aL.mp hx;omega)];exact ax _
def G4 {cf n most:Nat} (ht:cf<=60) (hm:most<=19):num `kt' n (cG `et')<=qR 10:=
 aU (CH n 0 most 0 (ax _) (aN _)) (acw `mt hm)
def xB:List Nat->List Place
 | []=>[[]]
 |c::r=>(List.range (c+1)).flatMap fun x=>(xB r).map fun l=>x::l
def vH:∀c:List Nat,(xB c).length<=2^Wqarao.sum c
 | []=>ax _
 |c::r=>by
  show((List.range (c+1)).flatMap _).length<=_;rw[pV,sum_cons,Nat.pow_add];have h1:=vH r;have e:((List.range (c+1)).map fun x=>((xB r).map fun l=>x::l).length)=(List.range (c+1)).map fun _=>(xB r).length:=dE fun x _=>ae _;rw[e];have e2:∀k,Wqarao.sum ((List.range k).map fun _=>(xB r).length)=k*(xB r).length:=by
   intro k
   induction k with
   |zero=>rw[Nat.zero_mul];rfl
   |succ k ih=>
    rw[eB,bj,r8,ih,add_mul,qh]
    congr 1
    exact cE _
  rw[e2];exact hJ (Nat.lt_two_pow_self) h1
def Cf:∀{c l:List Nat},l.length=c.length->(∀x,l.getD x 0<=c.getD x 0)->l∈xB c
 | [],l,h,_=>by
  rw[bV.mp h];exact aI ..
 |c::r,[],h,_=>by cases h
 |c::r,a::l,h,Ew=>by
  have h0:=Ew 0;rw[iw,iw] at h0;refine jF.mpr #[a,aL.mpr `mt,aV.mpr #[l,Cf `ew' fun x=>?_,rfl]];have:=Ew (x+1);rw[jy,jy] at this;exact this
def yK (l:List Nat) (x y v:Nat):(l.set x v).getD y 0=if x=y/\y<l.length then v else l.getD y 0:=by
 rw[ay,ay,qi];by_cases e:x=y
 ·subst e;by_cases h:x<l.length
  ·rw[aD rfl,aD h,aD #[rfl,h]];rfl
  ·rw[aD rfl,au h,au (fun z=>h z.2),bc `mt]
 ·rw[au e,au (fun z=>e z.1)]
def HK {c:List Nat} (h:Wqarao.sum c<=10):qd (Lg (.orders c)) (Wqarao.sum c) 0 1025:=by
 refine uK (fun _=>xB c) (fun _=>aU (vH c) (g9 `KK h)) fun r q e=>?_;have:=rH (G:=fun _ l=>l.length=c.length/\∀x,l.getD x 0<=c.getD x 0) `ei' r #[rfl,fun _=>ax _] e
 ·exact Cf this.1 this.2
 ·show 81;refine#[by rw[eC];exact hp.1,fun y=>?_];rw[yK];have h1:=hp.2 y;by_cases z:x=y/\y<p.length
  ·rw[aD z];have:=z.1;subst this;omega
  ·rw[au z];exact h1
def V6 (m n:Nat):List Place:=(List.range m).flatMap fun a=>(List.range n).map fun s=>[a,s]
def ES (m n:Nat):(V6 m n).length=m*n:=by
 unfold V6
 induction m with
 |zero=>rw[Nat.zero_mul];rfl
 |succ k ih=>
  rw[eB,List.flatMap_append,aE,ih,add_mul,qh]
  congr 1
  simp
def Mm {cf n most:Nat} (ht:cf<=60) (hm:most<=19):qd (Lg `et') n 0 1221:=by
 refine uK (fun _=>V6 20 61) (fun _=>by rw[ES];decide) fun r q e=>?_;have:=rH (G:=fun _ l=>∃a s,l=[a,s]/\a<=most/\s<=cf) `ei' r #[_,_,rfl,ax _,aN _] e
 ·obtain⟨a,s,rfl,h1,h2⟩:=this;exact jF.mpr #[a,aL.mpr `mt,aV.mpr #[s,aL.mpr `mt,rfl]]
 ·obtain⟨a,s,rfl,h1,h2⟩:=hp;have e':(if a<x\/cf<s+x then none else some [x,s+x])=some q:=e;have:=dg e';cases this.2;exact#[_,_,rfl,by omega,by omega]
def Dv:Kind->Bool
 | .words .. =>true
 | .choices .. =>true
 | .bags .. =>true
 | .shares .. =>true
 | .groups .. =>true
 | .paths .. =>true
 | .automaton .. =>true
 | .walks .. =>true
 |_=>false
def A6 {m a b:Nat} (h:upTo m [a,b]=true):a<=m/\b<=m:=by
 unfold upTo at h;simp at h;exact h
def B0 {K:Kind} (h:K.may=true) (hs:Dv K=true):qd (Lg K) K.len 0 203:=by
 cases K with
 |words n k=>exact Md.mono (ax _) `KK
 |choices n k=>
  have h:=h;exact(Gy (A6 h).1).mono (ax _) `KK
 |bags n k=>
  have h:=h;exact(PU (A6 h).1).mono (ax _) `KK
 |shares cf n jd most=>
  have h:(decide (cf<=200)&&_)=true:=h;rw[aX] at h;exact Ix (af h.1)
 |groups n k=>
  have h:=h;exact(HZ (A6 h).2).mono (ax _) `KK
 |paths n iZ e=>
  have h:upTo 20 [n,iZ,e]=true:=h;unfold upTo at h;simp at h;exact(K7 h.2.1).mono (ax _) `KK
 |automaton next jP k a n=>
  have h:(decide (1<=jP)&&(decide (jP<=8)&&_))=true:=h;rw[aX,aX] at h;exact(Br (af h.1) (af h.2.1)).mono (ax _) `KK
 |walks to yD n s e=>
  have h:(decide (1<=yD)&&(decide (yD<=8)&&_))=true:=h;rw[aX,aX] at h;exact(L5 (af h.2.1)).mono (ax _) `KK
 |_=>cases hs
def ZP:qR 7=5040:=by decide
def Pw:qR 10=2580480:=by decide
def Kr {K:Kind} (h:K.may=true) (hs:Dv K=false):qd (Lg K) K.len 2580480 1/\qd (Lg K) K.len 0 5041:=by
 have f7:qR 7<=2580480:=by decide
 have No:num K.letters K.len (cG K)<=qR 7->qd (Lg K) K.len 2580480 1/\qd (Lg K) K.len 0 5041:=fun h=>
  #[vY (aU h f7),by have:=(vY h).flat;rw[ZP] at this;exact this]
 cases K with
 |orders c=>
  have h:(decide (c.length<=8)&&decide (Wqarao.sum c<=10))=true:=h;rw[aX] at h;have h2:=af h.2;exact#[vY (by rw[<-Pw];exact Fv (af h.1) h2),(HK h2).mono (ax _) `KK]
 |derangements n=>exact No (vB (af h))
 |involutions n=>exact No (wE (af h))
 |zigzags n=>exact No (DU (af h))
 |parts cf n most=>
  have h:(decide (cf<=60)&&(decide (n<=LONG)&&decide (most<=19)))=true:=h;rw[aX,aX] at h;have h1:=af h.1;have h2:=af h.2.2;exact#[vY (by rw[<-Pw];exact G4 h1 h2),(Mm h1 h2).mono (ax _) `KK]
 |extensions m n=>
  have h:(decide (n<=7)&&_)=true:=h;rw[aX] at h;exact No (xW (af h.1))
 |matchings m n=>
  have h:(decide (n<=7)&&_)=true:=h;rw[aX] at h;exact No (Ah (af h.1))
 |_=>first| (cases hs;done)| (cases h;done)
def cx:List `Id->Nat->Row->Bool
 | [],m,[]=>m==1
 |ly::rest,m,x::r=>cx rest `dE' r
 |_,_,_=>false
structure so (L k:Nat) (ly:List `at'):Prop where
 zero:ly.getD 0 []=replicate L 0
 pos:0<ly.length
 nd:ly.Nodup
 len:∀c∈ly,c.length=L
 lt:∀c∈ly,∀y∈c,y<k
def cj (ls:List `Id):Nat:=match ls with
 | []=>2
 |ly::_=>ly.length
inductive iG (L:Nat):List `Id->Prop
 |nil:iG L []
 |cons {ly rest}:so L (cj rest) ly->iG L rest->iG L `gd'
def k0 (L x:Nat):(replicate L 0).getD x 0=0:=by
 rw[ay,gh]
 split<;>rfl
def ii {L:Nat} {ls:List `Id} (g:iG L ls):∀r,cx ls 0 r=false:=by
 induction g with
 |nil=>
  intro r;cases r<;>rfl
 |cons h _ ih=>
  intro r;cases r with
  |nil=>rfl
  |cons x r=>
   show cx _ ((List.getD _ 0 []).getD x 0) r=false;rw[h.zero,k0];exact ih r
def yH:∀{ls:List (List (List Nat))} {m:Nat} {r:Row},cx ls m r=true->r.length=ls.length
 | [],_,[],_=>rfl
 | [],_,_::_,h=>by cases h
 |_::_,_,[],h=>by cases h
 |_::rest,_,_::r,h=>by
  have:=yH (ls:=rest) h;rw[aF,aF,this]
def cQ {α:Type} {l:List α} {m:Nat} {d:α} (h:m<l.length):l.getD m d=l[m]:=by
 rw[ay,ao h];rfl
def getD_mem {α:Type} {l:List α} {m:Nat} {d:α} (h:m<l.length):l.getD m d∈l:=by
 rw[ay,ao h];exact jG h
def Dx {L:Nat} {ls:List `Id} (g:iG L ls):∀{m:Nat} {r:Row},m<cj ls->cx ls m r=true->∀x∈r,x<L:=by
 induction g with
 |nil=>
  intro m r _ h x hx;cases r with
  |nil=>cases hx
  |cons y r=>cases h
 | @cons ly rest h g ih=>
  intro m r hm e x hx;cases r with
  |nil=>cases hx
  |cons y r=>
   have uB:ly.getD m []∈ly:=getD_mem hm;have e':cx rest ((ly.getD m []).getD y 0) r=true:=e;have hy:y<L:=by
    apply cu;intro hn;have hl:=h.len _ uB;have:(ly.getD m []).getD y 0=0:=by
     rw[ay,bc `mt];rfl
    rw[this,ii g] at e';cases e'
   rcases bh.mp hx with rfl|hx
   ·exact hy
   ·refine ih (h.lt _ uB _ ?_) e' x hx;exact getD_mem (by rw[h.len _ uB];exact hy)
def AR {L:Nat} {ls:List `Id} (g:iG L ls):∀{m m':Nat},m<cj ls->m'<cj ls->cx ls m=cx ls m'->m=m':=by
 induction g with
 |nil=>
  intro m m' h h' e;have e0:=congrFun e [];have h:m<2:=h;have h':m'<2:=h';by_cases c:m=1
  ·rw[c] at e0⊢
   have:(m'==1)=true:=e0.symm;exact(by simpa using this:m'=1).symm
  ·by_cases c':m'=1
   ·rw[c'] at e0;have:(m==1)=true:=e0;exact absurd (by simpa using this) c
   ·omega
 | @cons ly rest h g ih=>
  intro m m' hm CQ e;have hm:=hm;have CQ:=CQ;have e1:ly.getD m []=ly.getD m' []:=by
   have l1:=h.len _ `jR';have l2:=h.len _ (getD_mem (d:=[]) CQ);refine qQ (by rw[l1,l2]) fun x h1 h2=>?_;have e2:cx rest `dE'=cx rest ((ly.getD m' []).getD x 0):=funext fun r=>congrFun e (x::r);have:=ih (h.lt _ `jg' _ (getD_mem h1)) (h.lt _ (getD_mem CQ) _ (getD_mem h2)) e2;exact(cQ h1).symm.trans (this.trans (cQ h2))
  exact(jH h.nd).mp ((cQ hm).symm.trans (e1.trans (cQ CQ)))
def iz:List `Id->Nat->Row->Nat
 |_,m,[]=>m
 | [],_,_::_=>0
 |ly::rest,m,x::r=>iz rest `dE' r
def CI:∀(ls:List (List (List Nat))) (m:Nat) (r s:Row),r.length<=ls.length->cx ls m (r++s)=cx (ls.drop r.length) (iz ls m r) s
 |ls,m,[],s,_=>by
  cases ls<;>rfl
 | [],_,_::_,_,h=>by
  rw[aF,ja] at h;omega
 |ly::rest,m,x::r,s,h=>CI rest _ r s `ew'
def iy (L:Nat) (ls:List `Id):List Nat:=(List.range (cj ls)).map fun m=>num L ls.length (cx ls m)
def Bu {L:Nat} {ls:List `Id} (g:iG L ls):num L ls.length (cx ls 0)=0:=by
 have:cx ls 0=nil:=funext fun r=>ii g r;rw[this,nM]
def pU {L:Nat} {ls:List `Id} {m:Nat} (h:m<cj ls):(iy L ls).getD m 0=num L ls.length (cx ls m):=by
 unfold iy;rw[ay,aR,eZ h];rfl
def pP (g:Nat->Nat):∀(c:List Nat),Wqarao.sum (c.map g)=Wqarao.sum ((List.range c.length).map fun x=>g `no')
 | []=>rfl
 |a::c=>by
  rw[bw,sum_cons,aF,List.range_succ_eq_map,bw,eK,sum_cons,pP g c];rfl
def Iw {L:Nat} {ly:List `at'} {rest:List `Id} (h:so L (cj rest) ly):iy L `gd'=ly.map fun c=>Wqarao.sum (c.map fun y=>(iy L rest).getD y 0):=by
 have fY:(iy L `gd').length=ly.length:=by unfold iy;rw[ae,bv];rfl
 refine qQ (by rw[fY,ae]) fun m h1 h2=>?_;have hm:m<ly.length:=by rw[fY] at h1;exact h1
 have e0:(iy L `gd')[m]=num L (ly::rest).length (cx `gd' m):=by
  rw[<-pU hm,cQ h1]
 have hl:=h.len _ (jG hm);rw[e0,gL,pP _ ly[m],hl];show Wqarao.sum ((List.range L).map fun x=>num L rest.length (tl (cx `gd' m) x))=_;refine dH Wqarao.sum (dE fun x hx=>?_);have hx:=aL.mp hx;have e2:tl (cx `gd' m) x=cx rest (ly[m].getD x 0):=by
  funext r
  show cx rest `dE' r=_;rw[cQ hm]
 rw[e2];exact(pU (h.lt _ (jG hm) _ (getD_mem `c1'))).symm
section
variable {κ:Type} [BEq κ] [LawfulBEq κ]
def put (b:κ) (ks:List κ):List κ:=if ks.contains b=true then ks else ks++[b]
def jZ {b:κ} {ks:List κ} (h:b∈ks):put b ks=ks:=by
 unfold put;rw[aD (j3.mpr h)]
def mS {b:κ} {ks:List κ} (h:¬b∈ks):put b ks=ks++[b]:=by
 unfold put;rw[au (fun z=>h (j3.mp z))]
def Eb (b:κ) (ks:List κ):b∈put b ks:=by
 by_cases h:b∈ks
 ·rw[jZ h];exact h
 ·rw[mS h];exact b3 _ `dG'
def yp {b c:κ} {ks:List κ}:c∈put b ks↔c∈ks\/c=b:=by
 by_cases h:b∈ks
 ·rw[jZ h];exact#[Or.inl,fun z=>z.elim id fun e=>e▸h]
 ·rw[mS h,eN,cT]
def qZ {b:κ} {ks:List κ} (h:ks.Nodup):(put b ks).Nodup:=by
 by_cases c:b∈ks
 ·rw[jZ c];exact h
 ·rw[mS c];refine List.nodup_append.mpr #[h,ig _ _,fun x hx y hy=>?_];rw[cT.mp hy];rintro rfl;exact c hx
def JZ (b:κ) (ks:List κ):∃l,put b ks=ks++l:=by
 by_cases h:b∈ks
 ·exact#[[],by rw[jZ h,bU]]
 ·exact#[[b],mS h]
def Eh {b:κ} {ks l:List κ} (h:b∈ks):(ks++l).idxOf b=ks.idxOf b:=by
 rw[mD,aD h]
end
section
variable {κ:Type} [BEq κ] [LawfulBEq κ]
def gy (z:List κ×List Nat) (xb:Nat×κ):List κ×List Nat:=(put xb.2 z.1,z.2.set xb.1 ((put xb.2 z.1).idxOf xb.2+1))
def lB (ms:List `ax') (z:List κ×List Nat):List κ×List Nat:=ms.foldl gy z
def g0 (mv:κ->List `ax') (L:Nat) (z:List κ×List `at') (s:κ):List κ×List `at':=
 ((lB (mv s) (z.1,replicate L 0)).1,z.2++[(lB (mv s) (z.1,replicate L 0)).2])
def dm (mv:κ->List `ax') (L:Nat) (sts:List κ):List κ×List `at':=sts.foldl `gA' ([],[])
def kY (mv:Nat->κ->List `ax') (L:Nat):Nat->Nat->List κ->List `Id×List κ
 |0,_,sts=>([],sts)
 |n+1,i,sts=>((dm (mv i) L sts).2::(kY mv L n (i+1) (dm (mv i) L sts).1).1,(kY mv L n (i+1) (dm (mv i) L sts).1).2)
def tJ:∀(ms:List (Nat×κ)) (z:List κ×List Nat),∃l,(lB ms z).1=z.1++l
 | [],z=>`ij'
 |xb::ms,z=>by
  obtain⟨l,e⟩:=tJ ms `mT';obtain⟨l',e'⟩:=JZ xb.2 z.1;refine#[l'++l,?_];show(lB ms `mT').1=_;rw[e];show put xb.2 z.1++l=_;rw[e',cI]
def AX:∀(ms:List (Nat×κ)) (z:List κ×List Nat),z.1.Nodup->(lB ms z).1.Nodup
 | [],_,h=>h
 |xb::ms,z,h=>AX ms `mT' (qZ h)
def Ay:∀(ms:List (Nat×κ)) (z:List κ×List Nat) (c:κ),c∈(lB ms z).1↔c∈z.1\/∃x,(x,c)∈ms
 | [],z,c=>#[Or.inl,fun h=>h.elim id fun⟨_,h⟩=>by cases h]
 |xb::ms,z,c=>by
  show c∈(lB ms `mT').1↔_;rw[Ay ms `mT' c];show c∈put xb.2 z.1\/_↔_;rw[yp]
  constructor
  ·rintro((h|h)| ⟨x,h⟩)
   ·show 181
   ·exact Or.inr #[xb.1,by rw[h];exact aI ..]
   ·exact Or.inr #[x,aK _ h]
  ·rintro(h| ⟨x,h⟩)
   ·exact Or.inl `ni'
   ·rcases bh.mp h with h|h
    ·exact Or.inl (Or.inr (by rw[<-h]))
    ·exact Or.inr #[x,h]
def A9:∀(ms:List (Nat×κ)) (z:List κ×List Nat),(lB ms z).2.length=z.2.length
 | [],_=>rfl
 |xb::ms,z=>by
  show(lB ms `mT').2.length=_;rw[A9 ms];show(z.2.set _ _).length=_;rw[eC]
def JY:∀(ms:List (Nat×κ)) (z:List κ×List Nat) (x:Nat),(ms.map (·.1)).Nodup->(∀y∈ms.map (·.1),y<z.2.length)->
 (lB ms z).2.getD x 0=match ms.lookup x with|some b=>(lB ms z).1.idxOf b+1|none=>z.2.getD x 0
 | [],_,_,_,_=>rfl
 | (y,b)::ms,z,x,nd,hl=>by
  have NG:=fk.mp nd;have tO:∀w∈ms.map (·.1),w< (gy z (y,b)).2.length:=fun w hw=>by
   show w< (z.2.set _ _).length;rw[eC];exact hl w (aK _ hw)
  have ih:=JY ms (gy z (y,b)) x NG.2 tO;have ek:lB ((y,b)::ms) z=lB ms (gy z (y,b)):=rfl;rw[ek,ih,cy];by_cases e:x=y
  ·subst e;have hn:ms.lookup x=none:=by
    cases q:ms.lookup x with
    |none=>rfl
    |some c=>
     exfalso;refine NG.1 ?_;clear ek ih tO nd NG hl
     induction ms with
     |nil=>cases q
     |cons p ms ih=>
      rw[cy] at q;by_cases e2:x=p.1
      ·rw[e2];exact aI ..
      ·rw[show(x==p.1)=false by simpa using e2] at q;exact aK _ (ih q)
   rw[hn,nj];show(z.2.set x ((put b z.1).idxOf b+1)).getD x 0=(lB ms (gy z (x,b))).1.idxOf b+1;rw[yK,aD #[rfl,hl x `dG']];obtain⟨l,el⟩:=tJ ms (gy z (x,b));rw[el];show _=(put b z.1++l).idxOf b+1;rw[Eh (Eb b z.1)]
  ·rw[show(x==y)=false by simpa using e];cases ms.lookup x with
   |some c=>rfl
   |none=>
    show(z.2.set y _).getD x 0=z.2.getD x 0;rw[yK,au (fun w=>e w.1.symm)]
def oY (L:Nat) (ms:List `ax'):Prop:=(ms.map (·.1)).Nodup/\∀y∈ms.map (·.1),y<L
def vC (mv:κ->List `ax') (L:Nat):∀(sts:List κ) (z:List κ×List (List Nat)),(∃l,(sts.foldl `gA' z).1=z.1++l)/\∃m,(sts.foldl `gA' z).2=z.2++m/\m.length=sts.length
 | [],z=>#[`ij',[],(bU _).symm,rfl]
 |s::sts,z=>by
  obtain⟨⟨l,e⟩,m,e2,e3⟩:=vC mv L sts (g0 mv L z s);obtain⟨l',e'⟩:=tJ (mv s) (z.1,replicate L 0);rw[dI];refine#[#[l'++l,?_],(lB (mv s) (z.1,replicate L 0)).2::m,?_,by rw[aF,e3,aF]]
  ·rw[e];show(lB (mv s) (z.1,replicate L 0)).1++l=_;rw[e',cI]
  ·rw[e2];show z.2++[_]++m=_;rw[cI];rfl
def yR (mv:κ->List `ax') (L:Nat):∀(sts:List κ) (z:List κ×List (List Nat)),z.1.Nodup->(sts.foldl `gA' z).1.Nodup
 | [],_,h=>h
 |s::sts,z,h=>yR mv L sts (g0 mv L z s) (AX _ _ h)
def EX (mv:κ->List `ax') (L:Nat):∀(sts:List κ) (z:List κ×List (List Nat)) (c:κ),c∈(sts.foldl `gA' z).1↔c∈z.1\/∃s∈sts,∃x,(x,c)∈mv s
 | [],z,c=>`gD'
 |s::sts,z,c=>by
  rw[dI,EX mv L sts (g0 mv L z s) c];show c∈(lB (mv s) (z.1,replicate L 0)).1\/_↔_;rw[Ay]
  constructor
  ·rintro((h| ⟨x,h⟩)| ⟨t,ht,x,h⟩)
   ·show 181
   ·exact Or.inr #[s,aI ..,x,h]
   ·exact Or.inr #[t,aK _ ht,x,h]
  ·rintro(h| ⟨t,ht,x,h⟩)
   ·exact Or.inl `ni'
   ·rcases bh.mp ht with rfl|ht
    ·exact Or.inl (Or.inr #[x,h])
    ·exact Or.inr #[t,ht,x,h]
def tu (L:Nat) (W6:List κ) (ms:List `ax') (ch:List Nat):Prop:=
 ch.length=L/\∀x,ch.getD x 0=match ms.lookup x with|some b=>W6.idxOf b+1|none=>0
def pZ {ms:List `ax'} {x:Nat} {b:κ} (h:ms.lookup x=some b):(x,b)∈ms:=by
 induction ms with
 |nil=>cases h
 |cons p ms ih=>
  rw[cy] at h;by_cases e:x=p.1
  ·rw[show(x==p.1)=true by simpa using e] at h;cases h;rw[e];exact aI ..
  ·rw[show(x==p.1)=false by simpa using e] at h;exact aK _ (ih h)
def SY {L:Nat} {ms:List `ax'} (hm:oY L ms) (ks:List κ) (l:List κ):tu L ((lB ms (ks,replicate L 0)).1++l) ms (lB ms (ks,replicate L 0)).2:=by
 refine#[by rw[A9];exact bo,fun x=>?_];rw[JY ms _ x hm.1 (fun y hy=>by rw[bo];exact hm.2 y hy)];cases e:ms.lookup x with
 |none=>exact k0 L x
 |some b=>
  show _=List.idxOf b _+1;rw[Eh ((Ay ms _ b).mpr (Or.inr #[x,pZ e]))]
def Kv {L:Nat} (mv:κ->List `ax'):∀(sts:List κ) (z:List κ×List (List Nat)) (done:List κ),(∀s∈done++sts,oY L (mv s))->z.2.length=done.length->
 (∀(j:Nat) (s:κ) (l:List κ),done[j]? =some s->∃ch,z.2[j]? =some ch/\tu L (z.1++l) (mv s) ch)->
 ∀(j:Nat) (s:κ),(done++sts)[j]? =some s->∃ch,(sts.foldl `gA' z).2[j]? =some ch/\tu L (sts.foldl `gA' z).1 (mv s) ch
 | [],z,done,_,_,h,j,s,e=>by
  rw[bU] at e;have:=h j s [] e;rw[bU] at this;exact this
 |t::sts,z,done,hm,hl,h,j,s,e=>by
  rw[dI];refine Kv mv sts (g0 mv L z t) (done++[t]) (by rw[cI];exact hm) (by show(z.2++[_]).length=_;rw[aE,aE,hl];rfl) (fun j s l e=>?_) j s (by rw[cI];exact e);obtain⟨k,ek⟩:=tJ (mv t) (z.1,replicate L 0);by_cases hj:j<done.length
  ·rw[cq hj] at e;obtain⟨ch,h1,h2⟩:=h j s (k++l) e;refine#[ch,?_,?_]
   ·show(z.2++[_])[j]? =_;rw[cq `mt];exact h1
   ·show tu L ((lB (mv t) (z.1,replicate L 0)).1++l) (mv s) ch;rw[ek,cI];exact h2
  ·rw[df `mt] at e;have hj0:j - done.length=0:=by
    have:=(bd.mp e).1;rw[cz] at this;omega
   rw[hj0] at e;have e:=aP e;subst e;refine#[_,?_,SY (hm t (b3 _ `dG')) z.1 l];show(z.2++[_])[j]? =_;rw[df `mt,hl,hj0];rfl
def Gf {L:Nat} {mv:κ->List `ax'} {sts:List κ} (hm:∀s∈sts,oY L (mv s)):∀(j:Nat) (s:κ),sts[j]? =some s->∃ch,(dm mv L sts).2[j]? =some ch/\tu L (dm mv L sts).1 (mv s) ch:=
 Kv mv sts ([],[]) [] hm rfl fun j s l e=>by cases e
def wZ {L:Nat} {mv:κ->List `ax'} {sts:List κ}:(dm mv L sts).2.length=sts.length:=by
 obtain⟨_,m,e,h⟩:=vC mv L sts ([],[]);show(sts.foldl `gA' ([],[])).2.length=_;rw[e];exact h
def Fj {L:Nat} {mv:κ->List `ax'} {sts:List κ}:(dm mv L sts).1.Nodup:=yR mv L sts ([],[]) List.Pairwise.nil
def stepF_mem {L:Nat} {mv:κ->List `ax'} {sts:List κ} {c:κ}:c∈(dm mv L sts).1↔∃s∈sts,∃x,(x,c)∈mv s:=by
 have:=EX mv L sts ([],[]) c;refine this.trans #[fun h=>h.elim (fun z=>by cases z) id,Or.inr]
end
def cH (names:List Nat) (ch:List Nat):List Nat:=ch.map fun c=>names.getD c 0
def cP (names:List Nat) (z:List `at'×List Nat) (ch:List Nat):List `at'×List Nat:=(put `jd' z.1,z.2++[(put `jd' z.1).idxOf `jd'])
def fj (L:Nat) (names:List Nat) (step:List `at'):List `at'×List Nat:=step.foldl `bE' (`bH',[0])
def jJ (names:List Nat):∀(step:List (List Nat)) (z:List (List Nat)×List Nat),(∃l,(step.foldl `bE' z).1=z.1++l)/\∃m,(step.foldl `bE' z).2=z.2++m/\m.length=step.length
 | [],z=>#[`ij',[],(bU _).symm,rfl]
 |c::step,z=>by
  obtain⟨⟨l,e⟩,m,e2,e3⟩:=jJ names step `ic';obtain⟨l',e'⟩:=JZ `c2' z.1;rw[dI];refine#[#[l'++l,?_],(put `c2' z.1).idxOf `c2'::m,?_,by rw[aF,e3,aF]]
  ·rw[e];show put `c2' z.1++l=_;rw[e',cI]
  ·rw[e2];show z.2++[_]++m=_;rw[cI];rfl
def og (names:List Nat):∀(step:List (List Nat)) (z:List (List Nat)×List Nat),z.1.Nodup->(step.foldl `bE' z).1.Nodup
 | [],_,h=>h
 |c::step,z,h=>og names step `ic' (qZ h)
def nA (names:List Nat):∀(step:List (List Nat)) (z:List (List Nat)×List Nat) (c:List Nat),c∈(step.foldl `bE' z).1↔c∈z.1\/∃ch∈step,c=cH names ch
 | [],z,c=>`gD'
 |ch::step,z,c=>by
  rw[dI,nA names step (cP names z ch) c];show c∈put `jd' z.1\/_↔_;rw[yp]
  constructor
  ·rintro((h|h)| ⟨t,ht,h⟩)
   ·show 181
   ·exact Or.inr #[ch,aI ..,h]
   ·exact Or.inr #[t,aK _ ht,h]
  ·rintro(h| ⟨t,ht,h⟩)
   ·exact Or.inl `ni'
   ·rcases bh.mp ht with rfl|ht
    ·exact Or.inl (Or.inr h)
    ·exact Or.inr #[t,ht,h]
def vX (names:List Nat):∀(step:List (List Nat)) (z:List (List Nat)×List Nat) (j:Nat) (ch:List Nat),step[j]? =some ch->(step.foldl `bE' z).2[z.2.length+j]? =some ((step.foldl `bE' z).1.idxOf `jd')
 | [],_,_,_,h=>by cases h
 |c::step,z,0,ch,h=>by
  have h:=aP h;subst h;rw[dI];obtain⟨⟨l,e⟩,m,e2,_⟩:=jJ names step `ic';rw[e,e2];show((z.2++[_])++m)[z.2.length+0]? =some ((put `c2' z.1++l).idxOf _);rw[Eh (Eb _ _),cq (by rw[aE,cz];omega),df `mt];rw[show z.2.length+0 - z.2.length=0 by omega];rfl
 |c::step,z,j+1,ch,h=>by
  rw[dI];have:=vX names step `ic' j ch h;have e:(cP names z c).2.length=z.2.length+1:=by
   show(z.2++[_]).length=_;rw[aE];rfl
  rw[e] at this;rw[show z.2.length+(j+1)=z.2.length+1+j by omega];exact this
def vQ (L:Nat) (GL:List Nat):List `Id->List Nat×List `Id
 | []=>(GL,[])
 |st::rest=>((fj L (vQ L GL rest).1 st).2,(fj L (vQ L GL rest).1 st).1::(vQ L GL rest).2)
section
variable {κ:Type} [BEq κ] [LawfulBEq κ]
def gY (mv:Nat->κ->List `ax') (en:κ->Bool):Nat->κ->Row->Bool
 |_,s,[]=>en s
 |i,s,x::r=>match(mv i s).lookup x with
  |none=>false
  |some t=>gY mv en (i+1) t r
def qz (en:κ->Bool) (sts:List κ):List Nat:=0::sts.map fun s=>if en s=true then 1 else 0
def D7 {α:Type} {l:List α} {j:Nat} {v d:α} (h:l[j]? =some v):l.getD j d=v:=by
 rw[ay,h];rfl
def JI (mv:Nat->κ->List `ax') (en:κ->Bool) (L:Nat):∀(n i:Nat) (sts:List κ),(∀k s,oY L (mv k s))->
 let b:=vQ L `nO' (kY mv L n i sts).1
 iG L b.2/\b.2.length=n/\b.1.getD 0 0=0/\b.1.length=sts.length+1/\(∀m∈b.1,m<cj b.2)/\∀(j:Nat) (s:κ),sts[j]? =some s->∀r:Row,r.length=n->cx b.2 (b.1.getD (j+1) 0) r=gY mv en i s r
 |0,i,sts,hm=>by
  refine#[.nil,rfl,rfl,by show(0::sts.map _).length=_;rw[aF,ae],fun m h=>?_,fun j s e r hr=>?_]
  ·rcases bh.mp h with rfl|h
   ·show 0<2;decide
   ·obtain⟨s,_,rfl⟩:=aV.mp h;show(if en s=true then 1 else 0)<2
    split<;>decide
  ·rw[bV.mp hr];have e2:(qz en sts).getD (j+1) 0=if en s=true then 1 else 0:=D7 (by
    show(0::sts.map _)[j+1]? =_;rw[List.getElem?_cons_succ,aR,e];rfl)
   show((qz en sts).getD (j+1) 0==1)=en s;rw[e2];cases en s<;>rfl
 |n+1,i,sts,hm=>by
  have ih:=JI mv en L n (i+1) (dm (mv i) L sts).1 hm;generalize eb:vQ L (qz en (kY mv L n (i+1) (dm (mv i) L sts).1).2) (kY mv L n (i+1) (dm (mv i) L sts).1).1=b at ih;obtain⟨g,gl,b0,bl,blt,hb⟩:=ih;have e1:vQ L (qz en (kY mv L (n+1) i sts).2) (kY mv L (n+1) i sts).1=((fj L b.1 (dm (mv i) L sts).2).2,(fj L b.1 (dm (mv i) L sts).2).1::b.2):=by
   rw[<-eb];rfl
  rw[e1];have uu:=Gf (sts:=sts) fun s _=>hm i s;have nL:∀(s:κ) (ch:List Nat),tu L (dm (mv i) L sts).1 (mv i s) ch->(∀y∈ch,y<b.1.length)->∀x,(cH b.1 ch).getD x 0=match(mv i s).lookup x with|some t=>b.1.getD ((dm (mv i) L sts).1.idxOf t+1) 0|none=>0:=fun s ch hk _ x=>by
   have e2:(cH b.1 ch).getD x 0=b.1.getD (ch.getD x 0) 0:=by
    unfold cH;rw[ay,aR,ay (l:=ch)];cases ch[x]? with
    |none=>exact b0.symm
    |some y=>rfl
   rw[e2,hk.2 x];cases(mv i s).lookup x with
   |none=>exact b0
   |some t=>rfl
  have uF:∀(s:κ) (ch:List Nat),s∈sts->tu L (dm (mv i) L sts).1 (mv i s) ch->∀y∈ch,y<b.1.length:=fun s ch hs hk y hy=>by
   obtain⟨x,hx,rfl⟩:=cg.mp hy;have e3:=hk.2 x;rw[cQ hx] at e3;rw[e3,bl];cases q:(mv i s).lookup x with
   |none=>exact jQ _
   |some t=>
    have:=eV.mpr (stepF_mem (L:=L)|>.mpr #[s,hs,x,pZ q]);exact qO this
  have Ni:∀ch∈(dm (mv i) L sts).2,∃s∈sts,tu L (dm (mv i) L sts).1 (mv i s) ch:=fun ch hc=>by
   obtain⟨j,hj,rfl⟩:=cg.mp hc;have KU:j<sts.length:=by rw[wZ] at hj;exact hj
   obtain⟨ch,h1,h2⟩:=uu j sts[j] (ao KU);rw[ao hj] at h1;cases h1;exact#[sts[j],jG KU,h2]
  have Ja:0<cj b.2:=by
   have:=blt 0 (by rw[<-b0];exact getD_mem (by rw[bl];exact jQ _));exact this
  have QZ:∀y,b.1.getD y 0<cj b.2:=fun y=>by
   by_cases hy:y<b.1.length
   ·exact blt _ (getD_mem hy)
   ·rw[ay,bc `mt];exact Ja
  obtain⟨⟨aa9,abW⟩,UG,NE,NB⟩:=jJ b.1 (dm (mv i) L sts).2 (`bH',[0]);have Zz:(fj L b.1 (dm (mv i) L sts).2).1=replicate L 0::aa9:=abW;have KM:so L (cj b.2) (fj L b.1 (dm (mv i) L sts).2).1:=by
   have Xz:∀c∈(fj L b.1 (dm (mv i) L sts).2).1,c=replicate L 0\/∃ch∈(dm (mv i) L sts).2,c=cH b.1 ch:=fun c hc=>by
    rcases(nA b.1 _ _ c).mp hc with h|h
    ·exact Or.inl (cT.mp h)
    ·exact Or.inr h
   refine#[by rw[Zz];rfl,by rw[Zz];exact jQ _,og b.1 _ _ (ig _ _),fun c hc=>?_,fun c hc y hy=>?_]
   ·rcases Xz c hc with rfl| ⟨ch,h,rfl⟩
    ·exact bo
    ·obtain⟨s,_,hk⟩:=Ni ch h;unfold cH;rw[ae];exact hk.1
   ·rcases Xz c hc with rfl| ⟨ch,h,rfl⟩
    ·rw[(List.mem_replicate.mp hy).2];exact Ja
    ·obtain⟨z,_,rfl⟩:=aV.mp hy;exact QZ z
  refine#[.cons KM g,by show b.2.length+1=n+1;rw[gl],?_,?_,fun m CQ=>?_,fun j s e r hr=>?_]
  ·show(fj L b.1 (dm (mv i) L sts).2).2.getD 0 0=0;have:(fj L b.1 (dm (mv i) L sts).2).2=[0]++UG:=NE;rw[this];rfl
  ·show(fj L b.1 (dm (mv i) L sts).2).2.length=_;have:(fj L b.1 (dm (mv i) L sts).2).2=[0]++UG:=NE;rw[this,aE,NB,wZ,cz];omega
  ·show m< (fj L b.1 (dm (mv i) L sts).2).1.length;have e2:(fj L b.1 (dm (mv i) L sts).2).2=[0]++UG:=NE;obtain⟨k,hk,rfl⟩:=cg.mp CQ;cases k with
   |zero=>
    have:(fj L b.1 (dm (mv i) L sts).2).2[0]=0:=by
     have h0:(fj L b.1 (dm (mv i) L sts).2).2[0]? =some 0:=by rw[e2];rfl
     rw[ao hk] at h0;exact aP h0
    rw[this];exact KM.pos
   |succ k=>
    have KW:k< (dm (mv i) L sts).2.length:=by
     have:(fj L b.1 (dm (mv i) L sts).2).2.length=(dm (mv i) L sts).2.length+1:=by rw[e2,aE,NB,cz];omega
     have Tq:k+1< (fj L b.1 (dm (mv i) L sts).2).2.length:=hk;omega
    have h1:=vX b.1 (dm (mv i) L sts).2 (`bH',[0]) k _ (ao KW);have h1:(fj L b.1 (dm (mv i) L sts).2).2[k+1]? =some ((fj L b.1 (dm (mv i) L sts).2).1.idxOf (cH b.1 (dm (mv i) L sts).2[k])):=by
     rw[show k+1=1+k by omega];exact h1
    rw[ao hk] at h1;rw[aP h1];exact eV.mpr ((nA b.1 _ _ _).mpr (Or.inr #[_,jG KW,rfl]))
  ·obtain⟨ch,h1,h2⟩:=uu j s e;have h3:=vX b.1 (dm (mv i) L sts).2 (`bH',[0]) j ch h1;have h3:(fj L b.1 (dm (mv i) L sts).2).2[j+1]? =some `cY':=by
    rw[show j+1=1+j by omega];exact h3
   show cx ((fj L b.1 (dm (mv i) L sts).2).1::b.2) ((fj L b.1 (dm (mv i) L sts).2).2.getD (j+1) 0) r=_;rw[D7 h3];have uB:cH b.1 ch∈(fj L b.1 (dm (mv i) L sts).2).1:=(nA b.1 _ _ _).mpr (Or.inr #[ch,aQ h1,rfl]);cases r with
   |nil=>cases hr
   |cons x r=>
    show cx b.2 (((fj L b.1 (dm (mv i) L sts).2).1.getD `cY' []).getD x 0) r=_;have e4:(fj L b.1 (dm (mv i) L sts).2).1.getD `cY' []=cH b.1 ch:=by
     rw[cQ (eV.mpr uB)];exact pF (eV.mpr uB)
    rw[e4,nL s ch h2 (uF s ch (aQ e) h2) x];have e5:gY mv en i s (x::r)=match(mv i s).lookup x with
     |none=>false
     |some t=>gY mv en (i+1) t r:=rfl
    rw[e5];cases q:(mv i s).lookup x with
    |none=>exact ii g r
    |some t=>
     have ht:t∈(dm (mv i) L sts).1:=stepF_mem.mpr #[s,aQ e,x,pZ q];refine hb _ t ?_ r (by simpa using hr);rw[ao (eV.mpr ht)];exact dH some (pF _)
end
def sim {κ:Type} {K:Kind} {mv:Nat->κ->List `ax'} {en:κ->Bool} (MX:Nat->κ->Place->Prop)
 (hs:∀i s p x,MX i s p->i<K.len->(∀t,(mv i s).lookup x=some t->∃q,K.step p i x=some q/\MX (i+1) t q)/\`in')
 (he:∀s p,MX K.len s p->en s=K.ends p):∀(r:Row) (i:Nat) (s:κ) (p:Place),MX i s p->i+r.length=K.len->gY mv en i s r=cR K i p r
 | [],i,s,p,h,hi=>by
  have hi:=hi;subst hi;exact he s p h
 |x::r,i,s,p,h,hi=>by
  rw[aF] at hi;have e1:gY mv en i s (x::r)=match(mv i s).lookup x with
   |none=>false
   |some t=>gY mv en (i+1) t r:=rfl
  have e2:cR K i p (x::r)=match K.step p i x with
   |none=>false
   |some q=>cR K (i+1) q r:=by
   conv=>lhs;unfold cR
   try rfl
  rw[e1,e2];obtain⟨h1,h2⟩:=hs i s p x h `mt;cases q:(mv i s).lookup x with
  |none=>rw[h2 q]
  |some t=>
   obtain⟨p',e3,h3⟩:=h1 t q;rw[e3];exact sim MX hs he r (i+1) t p' h3 `mt
def jp {κ:Type} {K:Kind} {mv:Nat->κ->List `ax'} {en:κ->Bool} (MX:Nat->κ->Place->Prop) (s:κ) (h0:MX 0 s K.start)
 (hs:∀i s p x,MX i s p->i<K.len->(∀t,(mv i s).lookup x=some t->∃q,K.step p i x=some q/\MX (i+1) t q)/\`in')
 (he:∀s p,MX K.len s p->en s=K.ends p) {r:Row} (hr:r.length=K.len):gY mv en 0 s r=cG K r:=sim MX hs he r 0 s K.start h0 `mt
def nG {β:Type} (g:Nat->β) (y:Nat):∀l:List Nat,(l.map fun x=>(x,g x)).lookup y=if y∈l then some (g y) else none
 | []=>rfl
 |a::l=>by
  rw[bw,cy];by_cases e:y=a
  ·subst e;rw[nj,aD `dG']
  ·rw[show(y==a)=false by simpa using e,nG g y l];by_cases h:y∈l
   ·rw[aD h,aD (aK _ h)]
   ·rw[au h,au (fun z=>(bh.mp z).elim e h)]
def ny {β:Type} {l:List Nat} {g:Nat->β} {y:Nat} {o:Option Place} {R:β->Place->Prop} (h:(y∈l->∃q,o=some q/\R (g y) q)) (h':¬y∈l->o=none):
 (∀t,(l.map fun x=>(x,g x)).lookup y=some t->∃q,o=some q/\R t q)/\((l.map fun x=>(x,g x)).lookup y=none->o=none):=by
 rw[nG];by_cases c:y∈l
 ·rw[aD c];exact#[fun t e=>by cases e;exact h c,fun e=>by cases e]
 ·rw[au c];exact#[fun t e=>`dt',fun _=>h' c]
def hX {β:Type} [BEq β] [LawfulBEq β] {L:Nat} {l:List Nat} {g:Nat->β} (nd:l.Nodup) (h:∀x∈l,x<L):oY L (l.map fun x=>(x,g x)):=by
 have e:(l.map fun x=>(x,g x)).map (·.1)=l:=by rw[eK];exact oN l
 unfold oY;rw[e];exact#[nd,h]
def mem_range'1 {x a n:Nat}:x∈range' a n↔a<=x/\x<a+n:=by
 rw[List.mem_range']
 constructor
 ·rintro⟨i,h,rfl⟩;omega
 ·intro h;exact#[x - a,by omega,by omega]
def JB (k:Nat) (_ s:Nat):List `cq':=(List.range k).map fun x=>(x,s)
def Qb {n k:Nat} {r:Row} (hr:r.length=n):gY (JB k) `ca' 0 0 r=cG `na' r:=
 jp (K:=.words n k) (fun _ _ _=>True) 0 trivial (fun i s p x _ _=>ny (R:=fun _ _=>True)
  (fun h=>#[p,aD (aL.mp h),trivial]) fun h=>au (fun z=>h (aL.mpr z))) `np' hr
def BU (n:Nat) (_ s:Nat):List `cq':=(range' s (n - s)).map fun x=>(x,x+1)
def Ik {n k:Nat} {r:Row} (hr:r.length=k):gY (BU n) `ca' 0 0 r=cG `kL' r:=
 jp (K:=.choices n k) `ey' 0 rfl (fun i s p x hp _=>by
  subst hp;have e:(Kind.choices n k).step [s] i x=if x<n/\s<=x then some [x+1] else none:=rfl;exact ny (R:=fun s p=>p=[s]) (fun h=>#[[x+1],by rw[e,aD `lx'],rfl]) fun h=>by rw[e,au (fun z=>h (mem_range'1.mpr `mt))]) `np' hr
def Pj (n:Nat) (_ s:Nat):List `cq':=(range' s (n - s)).map fun x=>(x,x)
def SH {n k:Nat} {r:Row} (hr:r.length=k):gY (Pj n) `ca' 0 0 r=cG (.bags n k) r:=
 jp (K:=.bags n k) `ey' 0 rfl (fun i s p x hp _=>by
  subst hp;have e:(Kind.bags n k).step [s] i x=if x<n/\s<=x then some [x] else none:=rfl;exact ny (R:=fun s p=>p=[s]) (fun h=>#[[x],by rw[e,aD `lx'],rfl]) fun h=>by rw[e,au (fun z=>h (mem_range'1.mpr `mt))]) `np' hr
def DI (_:Nat) (s:List Nat):List `fU':=(List.range (min (s.getD 0 0) `nA'+1)).map fun x=>(x,[x,s.getD 1 0 - x])
def P3 {cf n most:Nat} {r:Row} (hr:r.length=n):gY DI (fun s=>s.getD 1 0==0) 0 [most,cf] r=cG `et' r:=
 jp (fun _ s p=>∃a b,b<=cf/\s=[a,cf - b]/\p=[a,b]) [most,cf] ⟨most,0,aN _,rfl,rfl⟩ (fun i s p x hp _=>by
  obtain⟨a,b,hb,rfl,rfl⟩:=hp;have e:(Kind.parts cf n most).step [a,b] i x=if a<x\/cf<b+x then none else some [x,b+x]:=rfl;refine ny (g:=fun x=>[x,cf - b - x]) (R:=fun s p=>∃a b,b<=cf/\s=[a,cf - b]/\p=[a,b]) `fa' fun h=>?_
  ·have h:x<min a (cf - b)+1:=aL.mp h;exact#[[x,b+x],by rw[e,au `mt],x,b+x,by omega,by rw[Nat.sub_sub],rfl]
  ·rw[e,aD];show 124;exact h (aL.mpr (show x<min a (cf - b)+1 by omega))) (fun s p hp=>by
  obtain⟨a,b,hb,rfl,rfl⟩:=hp;show((cf - b)==0)=(b==cf)
  by_cases c:b=cf
  ·subst c;simp
  ·rw[show(b==cf)=false by simpa using c];simp;omega) hr
def Fb (jd most:Nat) (_ s:Nat):List `cq':=(range' jd (min most s+1 - jd)).map fun x=>(x,s - x)
def Mt {cf n jd most:Nat} {r:Row} (hr:r.length=n):gY (Fb jd most) (fun s=>s==0) 0 cf r=cG `i5' r:=
 jp (K:=.shares cf n jd most) (fun _ s p=>∃b,b<=cf/\s=cf - b/\p=[b]) cf ⟨0,aN _,rfl,rfl⟩ (fun i s p x hp _=>by
  obtain⟨b,hb,rfl,rfl⟩:=hp;have e:(Kind.shares cf n jd most).step [b] i x=if x<jd\/most<x\/cf<b+x then none else some [b+x]:=rfl;refine ny (R:=fun s p=>∃b,b<=cf/\s=cf - b/\p=[b]) `fa' fun h=>?_
  ·have h:=mem_range'1.mp h;exact#[[b+x],by rw[e,au `mt],b+x,by omega,by rw[Nat.sub_sub],rfl]
  ·rw[e,aD];show 124;exact h (mem_range'1.mpr `mt)) (fun s p hp=>by
  obtain⟨b,hb,rfl,rfl⟩:=hp;show((cf - b)==0)=(b==cf)
  by_cases c:b=cf
  ·subst c;simp
  ·rw[show(b==cf)=false by simpa using c];simp;omega) hr
def nY (k _:Nat) (s:Nat):List `cq':=(List.range s).map (fun x=>(x,s))++(if s=k then[] else[(s,s+1)])
def qE {β:Type} (y:Nat):∀l m:List (Nat×β),(l++m).lookup y=(l.lookup y).or (m.lookup y)
 | [],m=>rfl
 | (a,b)::l,m=>by
  rw[lh,cy,cy];cases y==a with
  |true=>rfl
  |false=>exact qE y l m
def LS {n k:Nat} {r:Row} (hr:r.length=n):gY (nY k) (fun s=>s==k) 0 0 r=cG `lZ' r:=
 jp (fun _ s p=>s<=k/\p=[s]) 0 ⟨aN _,rfl⟩ (fun i s p x hp _=>by
  obtain⟨hk,rfl⟩:=hp;have e:(Kind.groups n k).step [s] i x=if k<=x\/s<x then none else some [max s (x+1)]:=rfl;have el:(nY k i s).lookup x=if x<s then some s else if x=s/\s≠k then some (s+1) else none:=by
   unfold nY;rw[qE,nG (fun _=>s)];by_cases c:x<s
   ·rw[aD c,aD (aL.mpr c)];rfl
   ·rw[au c,au (fun z=>c (aL.mp z))];by_cases d:s=k
    ·rw[aD d,au (fun z=>z.2 d)];rfl
    ·rw[au d];show([(s,s+1)]:List `cq').lookup x=_;rw[cy];by_cases f:x=s
     ·rw[show(x==s)=true by simpa using f,aD #[f,d]]
     ·rw[show(x==s)=false by simpa using f,au `k9'];rfl
  rw[el,e];by_cases c:x<s
  ·rw[aD c,au `mt];exact#[fun t q=>by cases q;exact#[_,rfl,hk,by rw[Nat.max_eq_left `mt]],fun q=>by cases q]
  ·rw[au c];by_cases d:x=s/\s≠k
   ·rw[aD d,au `mt];exact#[fun t q=>by cases q;exact#[_,rfl,by omega,by rw[Nat.max_eq_right `mt,d.1]],fun q=>by cases q]
   ·rw[au d,aD `mt];exact `jW') (fun s p hp=>by
  obtain⟨_,rfl⟩:=hp;rfl) hr
def oR (iZ _:Nat) (s:Nat):List `cq':=(if 0<s then[(0,s - 1)] else[])++(if s<iZ then[(1,s+1)] else[])
def Pl {n iZ e:Nat} {r:Row} (hr:r.length=n):gY (oR iZ) (fun s=>s==e) 0 0 r=cG (.paths n iZ e) r:=
 jp (K:=.paths n iZ e) `ey' 0 rfl (fun i s p x hp _=>by
  subst hp;have e1:(Kind.paths n iZ e).step [s] i x=if x=1 then(if iZ<=s then none else some [s+1]) else if x=0 then(if s=0 then none else some [s - 1]) else none:=rfl;have el:(oR iZ i s).lookup x=if x=1 then(if s<iZ then some (s+1) else none) else if x=0 then(if 0<s then some (s - 1) else none) else none:=by
   unfold oR;rw[qE];have la:(if 0<s then[(0,s - 1)] else[]:List `cq').lookup x=if x=0/\0<s then some (s - 1) else none:=by
    by_cases c:0<s
    ·rw[aD c,cy];by_cases d:x=0
     ·rw[show(x==0)=true by simpa using d,aD #[d,c]]
     ·rw[show(x==0)=false by simpa using d,au (fun z=>d z.1)];rfl
    ·rw[au c,au (fun z=>c z.2)];rfl
   have lb:(if s<iZ then[(1,s+1)] else[]:List `cq').lookup x=if x=1/\s<iZ then some (s+1) else none:=by
    by_cases c:s<iZ
    ·rw[aD c,cy];by_cases d:x=1
     ·rw[show(x==1)=true by simpa using d,aD #[d,c]]
     ·rw[show(x==1)=false by simpa using d,au (fun z=>d z.1)];rfl
    ·rw[au c,au (fun z=>c z.2)];rfl
   rw[la,lb];by_cases h1:x=1
   ·subst h1;by_cases c:s<iZ<;>simp[c]
   ·by_cases h0:x=0
    ·subst h0;by_cases c:0<s<;>simp[c]
    ·simp[h1,h0]
  rw[el,e1];by_cases h1:x=1
  ·rw[aD h1,aD h1];by_cases c:s<iZ
   ·rw[aD c,au `mt];exact `f1'
   ·rw[au c,aD `mt];exact `kB'
  ·rw[au h1,au h1];by_cases h0:x=0
   ·rw[aD h0,aD h0];by_cases c:0<s
    ·rw[aD c,au `mt];exact `f1'
    ·rw[au c,aD `mt];exact `kB'
   ·rw[au h0,au h0];exact `jW') (fun s p hp=>by
  subst hp;rfl) hr
def tQ (aW:List Nat) (start:Nat) (i:Nat) (s:Nat):List `cq':=
 if i=0 then((List.range aW.length).filter fun x=>decide (start=aW.length\/start=x)).map fun x=>(x,x)
 else((List.range aW.length).filter fun x=>(aW.getD s 0).testBit x).map fun x=>(x,x)
def Pg {aW:List Nat} {n a e:Nat} {r:Row} (hr:r.length=n+1):gY (tQ aW a) (fun s=>decide (e=aW.length\/e=s)) 0 0 r=cG (.walks aW aW.length n a e) r:=
 jp (K:=.walks aW aW.length n a e) (fun i s p=>if i=0 then p=[] else p=[s]) 0 rfl (fun i s p x hp _=>by
  have e1:(Kind.walks aW aW.length n a e).step p i x=if aW.length<=x\/(if i=0 then a≠aW.length/\x≠a else bit aW (p.getD 0 0) x=false) then none else some [x]:=rfl;unfold tQ;by_cases hi:i=0
  ·rw[aD hi];show 73
   ·show 191;have h2:=af h.2;refine#[[x],by rw[e1,au];rw[aD hi];omega,by rw[au `mt]]
   ·rw[e1,aD];rw[aD hi];show 124;exact h (aO.mpr #[aL.mpr `mt,bp `mt])
  ·rw[au hi] at hp⊢
   subst hp;have eb:bit aW ([s].getD 0 0) x=(aW.getD s 0).testBit x:=rfl;show 73
   ·show 191;refine#[[x],?_,by rw[au `mt]];rw[e1,au];rw[au hi,eb,h.2];intro z;rcases z with z|z
    ·omega
    ·cases z
   ·rw[e1,aD];rw[au hi,eb];by_cases c:aW.length<=x
    ·exact Or.inl c
    ·right
     cases q:(aW.getD s 0).testBit x with
     |false=>rfl
     |true=>exact absurd (aO.mpr ⟨aL.mpr `mt,q⟩) h) (fun s p hp=>by
  rw[au (show ¬(Kind.walks aW aW.length n a e).len=0 from qN n)] at hp;subst hp;show decide (e=aW.length\/e=s)=(e==aW.length||s==e)
  rw[Bool.decide_or]
  congr 1
  exact b5.mpr `mn') hr
def G8 {m x:Nat} (h:m.testBit x=false):m|||2^x=m+2^x:=by
 apply Nat.eq_of_testBit_eq;intro i;rw[sV h,Nat.testBit_or,Nat.testBit_two_pow]
 congr 1
 exact b5.mpr `mn'
def sX (next:List Nat) (jP k:Nat) (_ s:Nat):List `cq':=((List.range k).filter fun x=>decide (next.getD (s*k+x) jP<jP)).map fun x=>(x,next.getD (s*k+x) jP)
def Ds {next:List Nat} {jP k a n:Nat} {r:Row} (hr:r.length=n):gY (sX next jP k) (fun s=>a.testBit s) 0 0 r=cG (.automaton next jP k a n) r:=
 jp `ey' 0 rfl (fun i s p x hp _=>by
  subst hp;have e:(Kind.automaton next jP k a n).step [s] i x=if k<=x\/jP<=next.getD (s*k+x) jP then none else some [next.getD (s*k+x) jP]:=rfl;show 73
  ·show 191;have h2:=af h.2;exact#[_,by rw[e,au `mt],rfl]
  ·rw[e,aD];show 124;exact h (aO.mpr ⟨aL.mpr `mt,bp `mt⟩)) (fun s p hp=>by
  subst hp;rfl) hr
def ET (_:Nat) (l:List Nat):List `fU':=((List.range l.length).filter fun x=>decide (0<l.getD x 0)).map fun x=>(x,l.set x (l.getD x 0 - 1))
def LG {c:List Nat} {r:Row} (hr:r.length=Wqarao.sum c):gY ET `ca' 0 c r=cG (.orders c) r:=
 jp (fun _ s p=>p=s) c rfl (fun i s p x hp _=>by
  subst hp;have e:(Kind.orders c).step p i x=if p.getD x 0=0 then none else some (p.set x (p.getD x 0 - 1)):=rfl;show 73
  ·have h:=aO.mp h;have h2:=af h.2;exact#[_,by rw[e,au `mt],rfl]
  ·rw[e,aD];by_cases c:x<p.length
   ·show 124;exact h (aO.mpr #[aL.mpr c,bp `mt])
   ·rw[ay,bc `mt];rfl) `iA' hr
def Ug (n:Nat) (i KZ:Nat):List `cq':=(((List.range n).filter fun x=> !KZ.testBit x).filter fun x=>decide (x≠i)).map fun x=>(x,KZ|||2^x)
def ya {n:Nat} {r:Row} (hr:r.length=n):gY (Ug n) `ca' 0 0 r=cG `ir' r:=
 jp `ey' 0 rfl (fun i s p x hp _=>by
  subst hp;have e:(Kind.derangements n).step [s] i x=if n<=x\/x=i\/s.testBit x=true then none else some [s+2^x]:=rfl;show 73
  ·show 87;have h2:s.testBit x=false:=by simpa using h'.2
   have h3:=af h.2;show 223
   ·omega
   ·exact h3 z
   ·rw[h2] at z;cases z
  ·rw[e,aD];by_cases c:n<=x
   ·exact Or.inl c
   ·by_cases d:x=i
    ·exact Or.inr (Or.inl d)
    ·right;right
     cases q:s.testBit x with
     |true=>rfl
     |false=>exact absurd (aO.mpr #[aO.mpr #[aL.mpr `mt,by rw[q];rfl],bp d]) h) `iA' hr
def uI (i GL x:Nat):Bool:=if i%2=1 then decide (GL<x) else if 0<i then decide (x<GL) else true
def TM (n:Nat) (i:Nat) (s:List Nat):List `fU':=(((List.range n).filter fun x=> !(s.getD 0 0).testBit x).filter fun x=>uI i `nA' x).map fun x=>(x,[s.getD 0 0|||2^x,x])
def Il {n:Nat} {r:Row} (hr:r.length=n):gY (TM n) `ca' 0 [0,0] r=cG `nb' r:=
 jp (fun i s p=>p=s/\∃m l,s=[m,l]/\(0<i->m.testBit l=true)) [0,0] ⟨rfl,0,0,rfl,fun z=>absurd z (dz 0)⟩ (fun i s p x hp _=>by
  obtain⟨rfl,m,l,rfl,hl⟩:=hp;have e:(Kind.zigzags n).step [m,l] i x=if n<=x\/m.testBit x=true\/`kE' then none else some [m+2^x,x]:=rfl;have lH:m.testBit x=false->0<i->x≠l:=fun h1 h2 z=>by
   rw[z,hl h2] at h1;cases h1
  have j5:m.testBit x=false->(uI i l x=true↔¬`kE'):=fun h1=>by
   unfold uI;by_cases c:i%2=1
   ·have:=lH h1 `mt;rw[aD c,aD c,bK];omega
   ·rw[au c,au c];by_cases d:0<i
    ·have:=lH h1 d;rw[aD d,bK];omega
    ·rw[au d];exact#[fun _ z=>d z.1,fun _=>rfl]
  refine ny (g:=fun x=>[m|||2^x,x]) `fa' fun h=>?_
  ·show 87;have h2:m.testBit x=false:=by simpa using h'.2
   refine#[[m+2^x,x],?_,by rw[G8 h2],_,_,rfl,fun _=>by rw[Nat.testBit_or,Nat.testBit_two_pow];simp];rw[e,au];rintro(z|z|z)
   ·omega
   ·rw[h2] at z;cases z
   ·exact(j5 h2).mp h.2 z
  ·rw[e,aD];by_cases c:n<=x
   ·exact Or.inl c
   ·right
    cases q:m.testBit x with
    |true=>exact Or.inl rfl
    |false=>
     right
     apply Classical.byContradiction;intro z;exact h (aO.mpr #[aO.mpr #[aL.mpr `mt,by show(!m.testBit x)=true;rw[q];rfl],(j5 q).mpr z])) `iA' hr
def TV (aW:List Nat) (_ KZ:Nat):List `cq':=(((List.range aW.length).filter fun x=> !KZ.testBit x).filter fun x=>decide (aW.getD x 0&&& KZ=aW.getD x 0)).map fun x=>(x,KZ|||2^x)
def Af {m u n:Nat} (h:m<2^n):m&&& u=m↔((List.range n).any fun(j:Nat)=>m.testBit j&& !u.testBit j)=false:=by
 constructor
 ·intro e;rw[qk];intro j _;have:(m&&& u).testBit j=m.testBit j:=by rw[e]
  rw[Nat.testBit_and] at this;cases a:m.testBit j<;>cases b:u.testBit j<;>simp_all
 ·intro e;rw[qk] at e;apply Nat.eq_of_testBit_eq;intro j;rw[Nat.testBit_and];by_cases hj:j<n
  ·have:=e j (aL.mpr hj);cases a:m.testBit j<;>cases b:u.testBit j<;>simp_all
  ·rw[Nat.testBit_lt_two_pow (bD h (g9 `KK `mt))];rfl
def By {aW:List Nat} (hm:∀m∈aW,m<2^aW.length) {r:Row} (hr:r.length=aW.length):gY (TV aW) `ca' 0 0 r=cG (.extensions aW aW.length) r:=
 jp `ey' 0 rfl (fun i s p x hp _=>by
  subst hp;have e:(Kind.extensions aW aW.length).step [s] i x=if aW.length<=x\/s.testBit x=true\/((List.range aW.length).any fun(u:Nat)=>bit aW x u&& !s.testBit u)=true then none else some [s+2^x]:=rfl;show 73
  ·show 87;have h2:s.testBit x=false:=by simpa using h'.2
   have h3:=(Af (hm _ (getD_mem h1))).mp (af h.2);show 223
   ·omega
   ·rw[h2] at z;cases z
   ·have z:((List.range aW.length).any fun(j:Nat)=>(aW.getD x 0).testBit j&& !s.testBit j)=true:=z;rw[h3] at z;cases z
  ·rw[e,aD];by_cases c:aW.length<=x
   ·exact Or.inl c
   ·right
    cases q:s.testBit x with
    |true=>exact Or.inl rfl
    |false=>
     right
     cases q2:((List.range aW.length).any fun(j:Nat)=>bit aW x j&& !s.testBit j) with
     |true=>rfl
     |false=>exact absurd (aO.mpr #[aO.mpr #[aL.mpr `mt,by rw[q];rfl],bp ((Af (hm _ (getD_mem `mt))).mpr q2)]) h) `iA' hr
def rL (n:Nat) (lG:List `at') (i:Nat) (asked:List Nat):List `fU':=
 if asked.getD i n<n then[(asked.getD i n,asked)] else((lG.getD i []).filter fun x=>decide (i<=x)&&decide (asked.getD x n=n)).map fun x=>(x,asked.set x i)
def pq (l:List Nat) (x y v d:Nat):(l.set x v).getD y d=if x=y/\y<l.length then v else l.getD y d:=by
 rw[ay,ay,qi];by_cases e:x=y
 ·subst e;by_cases h:x<l.length
  ·rw[aD rfl,aD h,aD #[rfl,h]];rfl
  ·rw[aD rfl,au h,au (fun z=>h z.2),bc `mt]
 ·rw[au e,au (fun z=>e z.1)]
def JV {K:Kind} {n:Nat} {lG:List `at'} (ok:Nat->Nat->Bool) (fY:K.len=n) (Nj:K.start=replicate n 0) (XJ:∀p,K.ends p=true) (sym:∀i x,ok i x=ok x i)
 (uu:∀p i x,K.step p i x=if n<=x\/ok i x=false then none else partner p i x) (Nt:∀i x,i<n->(x∈lG.getD i []↔x<n/\ok i x=true)) {r:Row} (hr:r.length=n):
 gY (rL n lG) `ca' 0 `j8' r=cG K r:=by
 have rep:∀y,y<n->(replicate n n).getD y n=n/\(replicate n 0).getD y 0=0:=fun y hy=>by
  rw[cQ (by rw[bo];exact hy),cQ (by rw[bo];exact hy),mE,mE];exact `hI'
 refine jp (fun i a l=>a.length=n/\l.length=n/\∀y,i<=y->y<n->a.getD y n<=n/\(a.getD y n=n->l.getD y 0=0)/\(a.getD y n<n->l.getD y 0=a.getD y n+1/\ok (a.getD y n) y=true)) `j8'
  #[bo,by rw[Nj];exact bo,fun y _ hy=>?_] (fun i a l x hp hi=>?_) (fun s p hp=>(XJ p).symm) (by rw[fY];exact hr)
 ·obtain⟨h1,h2⟩:=rep y hy;rw[Nj];exact#[jg h1,fun _=>h2,fun z=>by omega]
 ·obtain⟨la,ll,hp⟩:=hp;rw[fY] at hi;obtain⟨p1,p2,p3⟩:=hp i (ax _) hi;rw[uu];unfold rL;by_cases c:a.getD i n<n
  ·rw[aD c];obtain⟨q1,q2⟩:=p3 c;have el:([(a.getD i n,a)]:List `fU').lookup x=if x=a.getD i n then some a else none:=by
    rw[cy];by_cases d:x=a.getD i n
    ·rw[show(x==a.getD i n)=true by simpa using d,aD d]
    ·rw[show(x==a.getD i n)=false by simpa using d,au d];rfl
   have ep:partner l i x=if x+1=l.getD i 0 then some (l.set i 0) else none:=by
    unfold partner;rw[aD `mt]
   rw[el,ep];by_cases d:x=a.getD i n
   ·rw[aD d,au (by rw[d,sym,q2];rintro(z|z);omega;cases z),aD `mt];refine#[fun t e=>?_,fun e=>by cases e];cases e;refine#[_,rfl,la,by rw[eC];exact ll,fun y hy XU=>?_];show 197;have e2:(l.set i 0).getD y 0=l.getD y 0:=by rw[pq,au (fun z=>by omega)]
    rw[e2];exact#[r1,r2,r3]
   ·rw[au d];refine#[fun t e=>`dt',fun _=>?_];rw[au (show ¬x+1=l.getD i 0 by omega)]
    split<;>rfl
  ·rw[au c];have ha:a.getD i n=n:=by omega
   have hl0:=p2 ha;have ep:partner l i x=if x<i\/l.getD x 0≠0 then none else if x=i then some l else some (l.set x (i+1)):=by
    unfold partner;rw[au `mt]
   rw[ep];show 73
   ·have h:=aO.mp h;obtain⟨h1,h2⟩:=(Nt i x hi).mp h.1;have h3:=h.2;rw[aX,bK,bK] at h3;have hx:=hp x h3.1 h1;rw[au (by rw[h2];rintro(z|z);omega;cases z),au (by have:=hx.2.1 h3.2;omega)];by_cases d:x=i
    ·rw[aD d];refine#[_,rfl,by rw[eC];exact la,ll,fun y hy XU=>?_];show 197;have e2:(a.set x i).getD y n=a.getD y n:=by rw[pq,au (fun z=>by omega)]
     rw[e2];exact#[r1,r2,r3]
    ·rw[au d];refine#[_,rfl,by rw[eC];exact la,by rw[eC];exact ll,fun y hy XU=>?_];show 197;by_cases f:x=y
     ·subst f;have e2:(a.set x i).getD x n=i:=by rw[pq,aD #[rfl,by omega]]
      have e3:(l.set x (i+1)).getD x 0=i+1:=by rw[pq,aD #[rfl,by omega]]
      rw[e2,e3];exact#[by omega,fun z=>by omega,fun _=>#[rfl,h2]]
     ·have e2:(a.set x i).getD y n=a.getD y n:=by rw[pq,au `k9']
      have e3:(l.set x (i+1)).getD y 0=l.getD y 0:=by rw[pq,au `k9']
      rw[e2,e3];exact#[r1,r2,r3]
   ·by_cases g:n<=x\/ok i x=false
    ·rw[aD g]
    ·rw[au g];have g1:x<n:=by
      show 124;exact g (Or.inl `mt)
     have g2:ok i x=true:=by
      cases q:ok i x with
      |true=>rfl
      |false=>exact absurd (Or.inr q) g
     rw[aD];show 124;have z1:i<=x:=by omega
     have z2:l.getD x 0=0:=by omega
     refine h (aO.mpr #[(Nt i x hi).mpr #[g1,g2],?_]);rw[aX,bK,bK];refine#[z1,?_];obtain⟨r1,_,r3⟩:=hp x z1 g1;apply cu;intro w;have:=(r3 `mt).1;omega
def AY {n:Nat} {lG:List `at'} (Nt:∀i x,i<n->(x∈lG.getD i []↔x<n)) {r:Row} (hr:r.length=n):
 gY (rL n lG) `ca' 0 `j8' r=cG `i1' r:=
 JV (n:=n) (fun _ _=>true) rfl rfl `aS' `Ch (fun p i x=>by
  show(if n<=x then none else partner p i x)=_;by_cases c:n<=x
  ·rw[aD c,aD (Or.inl c)]
  ·rw[au c,au (by rintro(z|z);exact c z;cases z)]) (fun i x hi=>by rw[Nt i x hi];exact#[fun z=>#[z,rfl],fun z=>z.1]) hr
def Dg {aW:List Nat} {lG:List `at'} (Nt:∀i x,i<aW.length->(x∈lG.getD i []↔x<aW.length/\x≠i/\bit aW i x=true/\bit aW x i=true)) {r:Row} (hr:r.length=aW.length):
 gY (rL aW.length lG) `ca' 0 (replicate aW.length aW.length) r=cG (.matchings aW aW.length) r:=
 JV (n:=aW.length) (fun i x=> !decide (x=i)&&(bit aW i x&&bit aW x i)) rfl rfl `aS' (fun i x=>by
  rw[Bool.and_comm (bit aW i x),show decide (x=i)=decide (i=x) from b5.mpr ⟨fun z=>z.symm,fun z=>z.symm⟩]) (fun p i x=>by
  show(if aW.length<=x\/x=i\/bit aW i x=false\/bit aW x i=false then none else partner p i x)=_;have:(aW.length<=x\/x=i\/bit aW i x=false\/bit aW x i=false)↔(aW.length<=x\/(!decide (x=i)&&(bit aW i x&&bit aW x i))=false):=by
   simp only[Bool.and_eq_false_iff,Bool.not_eq_false',bK]
  by_cases c:aW.length<=x\/x=i\/bit aW i x=false\/bit aW x i=false
  ·rw[aD c,aD (this.mp c)]
  ·rw[au c,au (fun z=>c (this.mpr z))]) (fun i x hi=>by
  rw[Nt i x hi];simp only[aX,mM,decide_eq_false_iff_not,ne_eq]) hr
section
variable {κ:Type} [BEq κ] [LawfulBEq κ]
def AD {mv ML:κ->List `ax'} {L:Nat}:∀(sts:List κ) (z:List κ×List (List Nat)),(∀s∈sts,mv s=ML s)->sts.foldl `gA' z=sts.foldl (g0 ML L) z
 | [],_,_=>rfl
 |s::sts,z,h=>by
  rw[dI,dI,AD sts _ fun t ht=>h t (aK _ ht)]
  congr 1
  unfold g0;rw[h s `dG']
def Gc {mv ML:κ->List `ax'} {L:Nat} {sts:List κ} (h:∀s∈sts,mv s=ML s):dm mv L sts=dm ML L sts:=AD sts _ h
def xI {mv ML:Nat->κ->List `ax'} {L:Nat} {Iv:Nat->κ->Prop}:∀(n i:Nat) (sts:List κ),(∀s∈sts,Iv i s)->(∀k s,i<=k->k<i+n->Iv k s->mv k s=ML k s/\∀x t,(x,t)∈mv k s->Iv (k+1) t)->kY mv L n i sts=kY ML L n i sts
 |0,_,_,_,_=>rfl
 |n+1,i,sts,hs,h=>by
  have e:dm (mv i) L sts=dm (ML i) L sts:=Gc fun s hm=>(h i s (ax _) `mt (hs s hm)).1;have ih:=xI (L:=L) n (i+1) (dm (mv i) L sts).1 (fun t ht=>by
   obtain⟨s,hm,x,hx⟩:=stepF_mem.mp ht;exact(h i s (ax _) `mt (hs s hm)).2 x t hx) (fun k s h1 h2=>h k s `mt `mt)
  unfold kY;rw[<-e,ih]
def yW {mv ML:Nat->κ->List `ax'} {en:κ->Bool} {Iv:Nat->κ->Prop}:∀(r:Row) (i n:Nat) (s:κ),r.length=n->Iv i s->(∀k s,i<=k->k<i+n->Iv k s->mv k s=ML k s/\∀x t,(x,t)∈mv k s->Iv (k+1) t)->gY mv en i s r=gY ML en i s r
 | [],_,_,_,_,_,_=>rfl
 |x::r,i,n,s,hr,hs,h=>by
  have hr:r.length+1=n:=hr;have h0:=h i s (ax _) `mt hs;unfold gY;rw[<-h0.1];cases e:(mv i s).lookup x with
  |none=>rfl
  |some t=>exact yW r (i+1) r.length t rfl (h0.2 x t (pZ e)) fun k s h1 h2=>h k s `mt `mt
open Classical in
def O5 (mv:Nat->κ->List `ax') (en:κ->Bool) (L:Nat) (Iv:Nat->κ->Prop) (n i:Nat) (sts:List κ) (hs:∀s∈sts,Iv i s) (h:∀k s,i<=k->k<i+n->Iv k s->oY L (mv k s)/\∀x t,(x,t)∈mv k s->Iv (k+1) t):
 let b:=vQ L `nO' (kY mv L n i sts).1
 iG L b.2/\b.2.length=n/\b.1.getD 0 0=0/\b.1.length=sts.length+1/\(∀m∈b.1,m<cj b.2)/\∀(j:Nat) (s:κ),sts[j]? =some s->∀r:Row,r.length=n->cx b.2 (b.1.getD (j+1) 0) r=gY mv en i s r:=by
 have hc:∀k s,i<=k->k<i+n->Iv k s->mv k s=`c4' k s/\∀x t,(x,t)∈mv k s->Iv (k+1) t:=fun k s h1 h2 h3=>#[by rw[show `c4' k s=if i<=k/\k<i+n/\Iv k s then mv k s else[] from rfl,aD `ju'],(h k s h1 h2 h3).2]
 have ok:=JI `c4' en L n i sts fun k s=>by
  show oY L (if i<=k/\k<i+n/\Iv k s then mv k s else[]);by_cases c:i<=k/\k<i+n/\Iv k s
  ·rw[aD c];exact(h k s c.1 c.2.1 c.2.2).1
  ·rw[au c];exact#[List.Pairwise.nil,fun _ z=>nomatch z]
 rw[<-xI n i sts hs hc] at ok;obtain⟨a1,a2,a3,a4,a5,a6⟩:=ok;exact#[a1,a2,a3,a4,a5,fun j s e r hr=>by rw[a6 j s e r hr];exact(yW r i n s hr (hs s (aQ e)) hc).symm]
end
def R3 {a b:Kind} (h:a.len=b.len):Lg `jw'=fun r=>Lg a r&&Lg b r:=by
 funext r
 show(decide `c6'&&cG `jw' r)=((decide `c6'&&cG a r)&&(decide `nz'&&cG b r))
 rw[BI,<-h];cases decide `c6'<;>simp
def LK {a b:Kind} (h:a.len=b.len):Lg `he'=fun r=>Lg a r||Lg b r:=by
 funext r
 show(decide `c6'&&cG `he' r)=((decide `c6'&&cG a r)||(decide `nz'&&cG b r))
 rw[xt,<-h];cases decide `c6'<;>simp
def RE {a b:Kind} (h:a.len=b.len):Lg `hM'=fun r=>Lg a r&& !Lg b r:=by
 funext r
 show(decide `c6'&&cG `hM' r)=((decide `c6'&&cG a r)&& !(decide `nz'&&cG b r))
 rw[t8,<-h];cases decide `c6'<;>simp
def Cs:∀(p r s:Row),il p (r++s)=(il p r&&il (p.drop r.length) s)
 | [],r,s=>by
  have h1:∀q:Row,il [] q=true:=fun q=>by cases q<;>rfl
  rw[nI,h1,h1,h1];rfl
 |y::p,[],s=>by
  show il (y::p) s=(il (y::p) []&&il (y::p) s)
  rw[show il (y::p) []=true from rfl,dG]
 |y::p,x::r,s=>by
  show(y==x&&il p (r++s))=((y==x&&il p r)&&il (p.drop r.length) s)
  rw[Cs p r s,Bool.and_assoc]
def pO {a:Kind} {p:Row} {R t:Nat} (h:qd (Lg a) a.len R t):qd (Lg `e3') a.len R t:=fun i hi=>by
 obtain⟨W,T,h1,h2,h3,h4⟩:=h i hi;have hn:(fun s:Row=>il `ft' s&&nil s)=nil:=funext fun s=>hU _;refine#[W,T.map fun f=>fun s=>il `ft' s&&f s,h1,by rw[ae];exact h2,aV.mpr #[nil,h3,hn],fun r hr=>?_];rcases h4 r hr with q|q
 ·exact .inl q
 ·right
  have e:∀s,Bt (Lg `e3') r s=(il p r&&(il `ft' s&&Bt (Lg a) r s)):=fun s=>by
   show(decide `jM'&&cG `e3' (r++s))=(il p r&&(il `ft' s&&(decide `jM'&&cG a (r++s))))
   rw[xz,Cs,hr];cases decide `jM'<;>simp[Bool.and_assoc]
  cases hp:il p r with
  |true=>
   refine aV.mpr #[_,q,funext fun s=>?_];rw[e s,hp,dG]
  |false=>
   have:Bt (Lg `e3') r=nil:=funext fun s=>by rw[e s,hp];rfl
   rw[this];exact aV.mpr #[nil,h3,hn]
def KF {a b:Kind} {r:Row}:Lg `ci' r=(decide (r.length=a.len+b.len)&&(Lg a (r.take a.len)&&Lg b `li')):=by
 show(decide (r.length=a.len+b.len)&&cG `ci' r)=_;by_cases h:r.length=a.len+b.len
 ·have h1:(r.take a.len).length=a.len:=by rw[be];omega
  have h2:(r.drop a.len).length=b.len:=by rw[b6];omega
  have:=CF a b h1 h2;rw[gI] at this;rw[this];show _=(_&&((decide ((r.take a.len).length=a.len)&&_)&&(decide ((r.drop a.len).length=b.len)&&_)))
  rw[bp h1,bp h2,dG,dG]
 ·rw[bS h,dS,dS]
def F9 {a b:Kind} {ta tb t:Nat} (ha:qd (Lg a) a.len 0 ta) (hb:qd (Lg b) b.len 0 tb) (h1:ta<=t) (h2:tb<=t):qd (Lg `ci') (a.len+b.len) 0 t:=fun i hi=>by
 by_cases hia:i<=a.len
 ·obtain⟨W,T,e1,e2,e3,e4⟩:=ha i hia;have hW:=bV.mp (Nat.le_zero.mp e1);subst hW;refine#[[],T.map fun f=>fun s=>decide (s.length=a.len - i+b.len)&&(f (s.take (a.len - i))&&Lg b (s.drop (a.len - i))),ax _,by rw[ae];omega,aV.mpr #[nil,e3,funext fun s=>?_],fun r hr=>.inr ?_]
  ·show(_&&(false&&_))=false;rw[dS,hU]
  ·rcases e4 r hr with q|q
   ·cases q
   ·refine aV.mpr #[_,q,funext fun s=>?_];show _=Lg `ci' (r++s);rw[KF,aE,List.take_append,List.drop_append,hr,cS (l:=r) `mt,eL (l:=r) `mt,iq];rw[show decide (s.length=a.len - i+b.len)=decide (i+s.length=a.len+b.len) from b5.mpr `F'];rfl
 ·obtain⟨W,T,e1,e2,e3,e4⟩:=hb (i - a.len) `mt;have hW:=bV.mp (Nat.le_zero.mp e1);subst hW;refine#[[],T,ax _,by omega,e3,fun r hr=>.inr ?_];have hd:(r.drop a.len).length=i - a.len:=by rw[b6,hr]
  rcases e4 `li' hd with q|q
  ·cases q
  ·have e:∀s,Bt (Lg `ci') r s=(Lg a (r.take a.len)&&Bt (Lg b) `li' s):=fun s=>by
    show Lg `ci' (r++s)=(_&&Lg b (r.drop a.len++s))
    rw[KF,aE,List.take_append,List.drop_append,hr,show a.len - i=0 by omega,List.take_zero,bU,fZ];cases MV:Lg b (r.drop a.len++s) with
    |false=>simp
    |true=>
     have:=(NZ.mp MV).1;rw[aE,hd] at this;rw[bp (show i+s.length=a.len+b.len by omega),dG]
   cases hp:Lg a (r.take a.len) with
   |true=>
    have:Bt (Lg `ci') r=Bt (Lg b) `li':=funext fun s=>by rw[e s,hp,dG]
    rw[this];exact q
   |false=>
    have:Bt (Lg `ci') r=nil:=funext fun s=>by rw[e s,hp];rfl
    rw[this];exact e3
structure Cv (K:Kind):Prop where
 pos:1<=K.size
 one:K.size=1->(qd (Lg K) K.len 0 203\/qd (Lg K) K.len 2580480 1)/\qd (Lg K) K.len 0 5041
 two:K.size=2->∃R t,qd (Lg K) K.len R t/\R+203*t<8388608/\R+2580480+t<8388608
 all:∃t,qd (Lg K) K.len 0 t/\t<8388608
def Rs {K:Kind} (h:K.may=true) (hs:K.size=1):Cv K:=by
 have h5:qd (Lg K) K.len 0 5041:=by
  cases hk:Dv K with
  |true=>exact(B0 h hk).mono (ax _) `KK
  |false=>exact(Kr h hk).2
 refine#[by omega,fun _=>#[?_,h5],fun e=>by omega,5041,h5,by decide];cases hk:Dv K with
 |true=>exact .inl (B0 h hk)
 |false=>exact .inr (Kr h hk).1
def Ps {a b:Kind} (ha:Cv a) (hb:Cv b) (hs:a.size+b.size<=3):∃Ra ta Rb tb,qd (Lg a) a.len Ra ta/\qd (Lg b) b.len Rb tb/\Ra+Rb+ta*tb<8388608/\(a.size+b.size=2->(Ra+Rb)+203*(ta*tb)<8388608/\(Ra+Rb)+2580480+ta*tb<8388608):=by
 show 219;rcases iD 1 a.size with c|c
 ·obtain⟨R,t,e1,e2,e3⟩:=ha.two `mt;rcases(hb.one `mt).1 with q|q
  ·exact#[R,t,0,203,e1,q,by rw[oM];omega,fun _=>by omega]
  ·exact#[R,t,2580480,1,e1,q,by omega,fun _=>by omega]
 ·rcases iD 1 b.size with c'|c'
  ·obtain⟨R,t,e1,e2,e3⟩:=hb.two `mt;rcases(ha.one `mt).1 with q|q
   ·exact#[0,203,R,t,q,e1,by omega,fun _=>by omega]
   ·exact#[2580480,1,R,t,q,e1,by omega,fun _=>by omega]
  ·rcases(ha.one `mt).1 with q|q<;>rcases(hb.one `mt).1 with q'|q'
   ·exact#[0,203,0,203,q,q',by decide,fun _=>by decide]
   ·exact#[0,203,2580480,1,q,q',by decide,fun _=>by decide]
   ·exact#[2580480,1,0,203,q,q',by decide,fun _=>by decide]
   ·exact#[2580480,1,2580480,1,q,q',by decide,fun _=>by decide]
def Dj {a b c:Kind} (o:Bool->Bool->Bool) (ho:o false false=false) (ha:Cv a) (hb:Cv b) (hs:a.size+b.size<=3) (hl:a.len=b.len) (hc:c.len=a.len) (hz:c.size=a.size+b.size) (he:Lg c=fun r=>o (Lg a r) (Lg b r)):Cv c:=by
 obtain⟨Ra,ta,Rb,tb,e1,e2,e3,e4⟩:=Ps ha hb hs;show 219;have hj:qd (Lg c) c.len (Ra+Rb) (ta*tb):=by
  rw[he,hc];rw[<-hl] at e2;exact qd.join o ho e1 e2
 exact#[by omega,fun e=>by omega,fun e=>#[_,_,hj,(e4 `mt).1,(e4 `mt).2],_,hj.flat,by omega]
def S0 {a b:Kind} (ha:Cv a) (hb:Cv b) (hs:a.size+b.size<=3) (hl:a.len=b.len):Cv `jw':=Dj (fun x y=>x&&y) rfl ha hb hs hl rfl rfl (R3 hl)
def LU {a b:Kind} (ha:Cv a) (hb:Cv b) (hs:a.size+b.size<=3) (hl:a.len=b.len):Cv `he':=Dj (fun x y=>x||y) rfl ha hb hs hl rfl rfl (LK hl)
def Sj {a b:Kind} (ha:Cv a) (hb:Cv b) (hs:a.size+b.size<=3) (hl:a.len=b.len):Cv `hM':=Dj (fun x y=>x&& !y) rfl ha hb hs hl rfl rfl (RE hl)
def SR {a b:Kind} (ha:Cv a) (hb:Cv b) (hs:a.size+b.size<=3):Cv `ci':=by
 show 219;have hz:(Kind.then_ a b).size=a.size+b.size:=rfl;obtain⟨t,e1,e2⟩:=ha.all;obtain⟨t',e1',e2'⟩:=hb.all;refine#[by omega,fun e=>by omega,fun e=>#[0,5041,?_,by decide,by decide],max t t',F9 e1 e1' `mt `mt,by omega];exact F9 (ha.one `mt).2 (hb.one `mt).2 (ax _) (ax _)
def Lv {a:Kind} {p:Row} (ha:Cv a):Cv `e3':=by
 refine#[ha.pos,fun e=>#[?_,pO (ha.one e).2],fun e=>?_,?_]
 ·rcases(ha.one e).1 with q|q
  ·exact .inl (pO q)
  ·exact .inr (pO q)
 ·obtain⟨R,t,e1,e2⟩:=ha.two e;exact#[R,t,pO e1,e2]
 ·obtain⟨t,e1,e2⟩:=ha.all;exact#[t,pO e1,e2]
def w9 {κ:Type} [BEq κ] [LawfulBEq κ] (mv:Nat->κ->List `ax') (en:κ->Bool) (i:Nat) (s:κ) (x:Nat) (r:Row):gY mv en i s (x::r)=match(mv i s).lookup x with
 |none=>false
 |some t=>gY mv en (i+1) t r:=rfl
def um (c:List Nat):List `cq':=((List.range c.length).filter fun x=>decide `fn').map fun x=>(x,c.getD x 0)
def gQ (G:List `Id) (i m:Nat):List Nat:=(G.getD i []).getD m []
def IU (c:List Nat) (x:Nat):(um c).lookup x=if c.getD x 0=0 then none else some `no':=by
 unfold um;rw[nG];by_cases h:c.getD x 0=0
 ·have hn:¬x∈(List.range c.length).filter (fun x=>decide `fn'):=fun z=>absurd h (af (aO.mp z).2);rw[aD h,au hn]
 ·rw[au h,aD (aO.mpr #[aL.mpr ?_,bp h])];rcases iD x c.length with z|z
  ·exact z
  ·rw[ay,bc z] at h;exact absurd rfl h
def tW {α:Type} {l:List α} {i:Nat} (d:α) (h:i<l.length):l.drop i=l.getD i d::l.drop (i+1):=by rw[eJ h,cQ h]
def wk {G:List `Id} {i:Nat} (h:i<G.length) (m x:Nat) (r:Row):cx `ar' m (x::r)=cx `aH' ((gQ G i m).getD x 0) r:=by
 rw[tW [] h];rfl
def io {L:Nat} {G:List `Id} (g:iG L G):∀i,iG L `ar':=by
 induction g with
 |nil=>
  intro i;rw[nI];exact .nil
 |cons h g ih=>
  intro i;cases i with
  |zero=>exact .cons h g
  |succ i=>exact ih i
def P4 {G:List `Id} {i:Nat} (hi:i<G.length):cj `ar'=(G.getD i []).length:=by rw[tW [] hi];rfl
def FL {L:Nat} {G:List `Id} (g:iG L G) {i:Nat} (hi:i<G.length):so L (cj `aH') (G.getD i []):=by
 have:=io g i;rw[tW [] hi] at this;cases this with
 |cons h _=>exact h
def mU {L:Nat} {G:List `Id} (g:iG L G):0<cj G:=by
 cases g with
 |nil=>exact Nat.zero_lt_succ _
 |cons h _=>exact h.pos
def uF {L:Nat} {G:List `Id} (g:iG L G) {i m x:Nat} (hi:i<G.length) (hm:m<cj `ar'):(gQ G i m).getD x 0<cj `aH':=by
 rw[P4 hi] at hm;have hl:=(FL g hi).len _ `jR';by_cases hx:x<L
 ·exact(FL g hi).lt _ `jg' _ (getD_mem `c1')
 ·rw[ay,bc (by show(gQ G i m).length<=x;rw[show(gQ G i m).length=L from hl];omega)];exact mU (io g _)
def vV (G:List `Id) (p:Row) (i m:Nat):List `cq':=((List.range (gQ G i m).length).filter fun x=>decide ((gQ G i m).getD x 0≠0)&&decide (p.getD i x=x)).map fun x=>(x,(gQ G i m).getD x 0)
def Ia (G:List `Id) (p:Row) (i m x:Nat):(vV G p i m).lookup x=if(gQ G i m).getD x 0≠0/\p.getD i x=x then some ((gQ G i m).getD x 0) else none:=by
 unfold vV;rw[nG];by_cases h:(gQ G i m).getD x 0≠0/\p.getD i x=x
 ·rw[aD h,aD (aO.mpr #[aL.mpr ?_,by rw[bp h.1,bp h.2];rfl])];rcases iD x (gQ G i m).length with z|z
  ·exact z
  ·have h1:=h.1;rw[ay,bc z] at h1;exact absurd rfl h1
 ·rw[au h,au fun z=>?_];have:=(aO.mp z).2;rw[aX] at this;exact h #[af this.1,af this.2]
def Ip (p:Row) (i x:Nat) (r:Row):il `ft' (x::r)=(decide (p.getD i x=x)&&il (p.drop (i+1)) r):=by
 by_cases hi:i<p.length
 ·rw[eJ hi];rw[ay,ao hi];rfl
 ·show 193
  have:il [] r=true:=by cases r<;>rfl
  rw[this];simp
def v9 {m:Nat} (h:m<2):(m != 0)=(m==1):=by
 rcases iD m 1 with z|z
 ·obtain rfl:m=0:=by omega
  rfl
 ·obtain rfl:m=1:=by omega
  rfl
def FZ {L:Nat} {G:List `Id} (g:iG L G) (p:Row):∀(r:Row) (i m:Nat),i+r.length=G.length->m<cj `ar'->gY (vV G p) `bW' i m r=(il `ft' r&&cx `ar' m r)
 | [],i,m,h,hm=>by
  have hi:i=G.length:=h;have e:il `ft' []=true:=by cases p.drop i<;>rfl
  rw[e,dG,hi,fx];rw[hi,fx] at hm;exact v9 hm
 |x::r,i,m,h,hm=>by
  have hi:i<G.length:=by rw[aF] at h;omega
  rw[Ip,wk hi];rw[w9,Ia];by_cases c:(gQ G i m).getD x 0≠0/\p.getD i x=x
  ·rw[aD c,bp c.2,dG];exact FZ g p r (i+1) _ `cr' (uF g hi hm)
  ·rw[au c];by_cases c1:(gQ G i m).getD x 0=0
   ·rw[c1,ii (io g _),hU]
   ·rw[bS (fun z=>c #[c1,z]),dS,dS]
def sC (Ga Gb:List `Id) (mb i m:Nat):List Nat:=if i+1=Ga.length then(gQ Ga i m).map fun y=>if y=0 then 0 else mb else if i<Ga.length then gQ Ga i m else gQ Gb `nS' m
def rW (Ga Gb:List `Id) (mb i m:Nat):List `cq':=um `mF'
def FH {cl:Nat->Nat->List Nat} (en:Nat->Bool) (i m x:Nat) (r:Row):gY (fun i m=>um (cl i m)) en i m (x::r)=if(cl i m).getD x 0=0 then false else gY (fun i m=>um (cl i m)) en (i+1) ((cl i m).getD x 0) r:=by
 rw[w9,IU];by_cases h:(cl i m).getD x 0=0
 ·rw[aD h,aD h]
 ·rw[au h,au h]
def rK {L:Nat} {Ga Gb:List `Id} (g:iG L Gb) (mb:Nat):∀(r:Row) (i m:Nat),i+r.length=Gb.length->m<cj `e6'->gY `ge' `bW' (Ga.length+i) m r=cx `e6' m r
 | [],i,m,h,hm=>by
  have hi:i=Gb.length:=h;rw[hi,fx] at hm⊢
  exact v9 hm
 |x::r,i,m,h,hm=>by
  have hi:i<Gb.length:=by rw[aF] at h;omega
  have hc:sC Ga Gb mb (Ga.length+i) m=gQ Gb i m:=by
   unfold sC;rw[au `mt,au `mt,show Ga.length+i - Ga.length=i by omega]
  rw[wk hi];have:=FH (cl:=sC Ga Gb mb) `bW' (Ga.length+i) m x r;rw[show gY `ge'=gY fun i m=>um `mF' from rfl,this,hc];by_cases h0:(gQ Gb i m).getD x 0=0
  ·rw[aD h0,h0,ii (io g _)]
  ·rw[au h0];exact rK g mb r (i+1) _ `cr' (uF g hi hm)
def wH {c:List Nat} {f:Nat->Nat} (h:f 0=0) (x:Nat):(c.map f).getD x 0=f `no':=by
 rw[ay,ay,aR];cases c[x]? with
 |none=>exact h.symm
 |some y=>rfl
def Bd {L L':Nat} {Ga Gb:List `Id} (ga:iG L Ga) (gb:iG L' Gb) {mb:Nat} (yb:mb<cj Gb):∀(r s:Row) (i m:Nat),i+r.length=Ga.length->0<r.length->s.length=Gb.length->m<cj `e5'->gY `ge' `bW' i m (r++s)=(cx `e5' m r&&cx Gb mb s)
 | [],s,i,m,_,h0,_,_=>absurd h0 (dz _)
 |x::r,s,i,m,h,_,hs,hm=>by
  have hi:i<Ga.length:=by rw[aF] at h;omega
  rw[wk hi,lh];have:=FH (cl:=sC Ga Gb mb) `bW' i m x (r++s);rw[show gY `ge'=gY fun i m=>um `mF' from rfl,this];have hk:=uF (x:=x) ga hi hm;by_cases hl:i+1=Ga.length
  ·have hr:r=[]:=bV.mp `cr';subst hr;have hc:sC Ga Gb mb i m=(gQ Ga i m).map fun y=>if y=0 then 0 else mb:=aD hl;rw[hc,wH (f:=fun y=>if y=0 then 0 else mb) (aD rfl)];rw[hl,fx] at hk⊢
   show _=((((gQ Ga i m).getD x 0)==1)&&cx Gb mb s)
   have hk:(gQ Ga i m).getD x 0<2:=hk;rw[<-v9 hk];by_cases h0:(gQ Ga i m).getD x 0=0
   ·rw[aD h0,aD rfl,h0];rfl
   ·rw[au h0,show((gQ Ga i m).getD x 0 != 0)=true from bne_iff_ne.mpr h0,dG];by_cases W8:mb=0
    ·rw[aD W8,W8,ii gb]
    ·rw[au W8];exact rK gb mb s 0 mb `mt yb
  ·have hc:sC Ga Gb mb i m=gQ Ga i m:=by
    unfold sC;rw[au hl,aD hi]
   rw[hc];by_cases h0:(gQ Ga i m).getD x 0=0
   ·rw[aD h0,h0,ii (io ga _),dS]
   ·rw[au h0];exact Bd ga gb yb r s (i+1) _ `cr' `cr' hs hk
def sS (na ma mb:Nat):Nat:=if 0<na then ma else if ma=0 then 0 else mb
def Lo {L L':Nat} {Ga Gb:List `Id} (ga:iG L Ga) (gb:iG L' Gb) {ma mb:Nat} (yc:ma<cj Ga) (yb:mb<cj Gb) {r:Row} (hr:r.length=Ga.length+Gb.length):
 gY `ge' `bW' 0 (sS Ga.length ma mb) r=(cx Ga ma (r.take Ga.length)&&cx Gb mb (r.drop Ga.length)):=by
 have e:=gI Ga.length r;unfold sS;by_cases h:0<Ga.length
 ·rw[aD h];have:=Bd ga gb yb (r.take Ga.length) (r.drop Ga.length) 0 ma `eV' `eV' `mv' yc;rw[e] at this;exact this
 ·have h0:Ga=[]:=bV.mp `mt;subst h0;rw[au h];show _=((ma==1)&&cx Gb mb r)
  have yc:=yc;rw[<-v9 yc];by_cases c:ma=0
  ·rw[aD c,c];have h1:=rK (Ga:=[]) gb mb r 0 0 `ly' (mU gb);rw[show gY (rW [] Gb mb) `bW' 0 0 r=gY (rW [] Gb mb) `bW' (List.length ([]:List `Id)+0) 0 r from rfl,h1];exact ii gb r
  ·rw[au c,show(ma != 0)=true from bne_iff_ne.mpr c,dG];exact rK gb mb r 0 mb `ly' yb
def j5 (M:Nat) (c:List Nat):List Nat:=(c++replicate M 0).take M
def kE (M:Nat) (c:List Nat):(j5 M c).length=M:=by
 unfold j5;rw[be,aE,bo];omega
def qX {M:Nat} (c:List Nat) {x:Nat} (h:x<M):(j5 M c).getD x 0=c.getD x 0:=by
 unfold j5;rw[ay,eX h,List.getElem?_append];by_cases hx:x<c.length
 ·rw[aD hx,ay]
 ·rw[au hx,gh,ay,bc `mt]
  split<;>rfl
def Ed (Ga Gb:List `Id) (M:Nat) (go:Nat->Nat->Bool) (i:Nat) (s:List Nat):List `fU':=
 ((List.range M).filter fun x=>go ((gQ Ga i (s.getD 0 0)).getD x 0) ((gQ Gb i `nA').getD x 0)).map fun x=>(x,[(gQ Ga i (s.getD 0 0)).getD x 0,(gQ Gb i `nA').getD x 0])
def Cb {La Lb M:Nat} {Ga Gb:List `Id} (ga:iG La Ga) (gb:iG Lb Gb) (hl:Ga.length=Gb.length) (go en o:Nat->Nat->Bool) (oo:Bool->Bool->Bool)
 (h1:∀x y,x<2->y<2->en x y=oo (x==1) (y==1)) (h2:∀(f g:Row->Bool) x y r,(x=0->∀r,f r=false)->(y=0->∀r,g r=false)->go x y=false->oo (f r) (g r)=false)
 (h3:∀x,M<=x->∀i a b r,i<Ga.length->a<cj `e5'->b<cj `e6'->oo (cx `e5' a (x::r)) (cx `e6' b (x::r))=false):
 ∀(r:Row) (i a b:Nat),i+r.length=Ga.length->a<cj `e5'->b<cj `e6'->gY (Ed Ga Gb M go) `eR' i [a,b] r=oo (cx `e5' a r) (cx `e6' b r)
 | [],i,a,b,h,ha,hb=>by
  have hi:i=Ga.length:=h;have hj:i=Gb.length:=by omega
  have ea:Ga.drop i=[]:=by rw[hi,fx]
  have eb:Gb.drop i=[]:=by rw[hj,fx]
  rw[ea] at ha⊢
  rw[eb] at hb⊢
  exact h1 a b ha hb
 |x::r,i,a,b,h,ha,hb=>by
  have hi:i<Ga.length:=by rw[aF] at h;omega
  have hj:i<Gb.length:=by omega
  rw[w9];have hlk:(Ed Ga Gb M go i [a,b]).lookup x=if x∈(List.range M).filter (fun x=>go ((gQ Ga i a).getD x 0) ((gQ Gb i b).getD x 0)) then some [(gQ Ga i a).getD x 0,(gQ Gb i b).getD x 0] else none:=nG _ _ _;rw[hlk];by_cases hx:x<M
  ·rw[wk hi,wk hj];cases hg:go ((gQ Ga i a).getD x 0) ((gQ Gb i b).getD x 0) with
   |true=>
    rw[aD (aO.mpr #[aL.mpr hx,hg])];exact Cb ga gb hl go en o oo h1 h2 h3 r (i+1) _ _ `cr' (uF ga hi ha) (uF gb hj hb)
   |false=>
    rw[au fun z=>by rw[(aO.mp z).2] at hg;cases hg];exact(h2 _ _ _ _ r (fun e r=>by rw[e];exact ii (io ga _) r) (fun e r=>by rw[e];exact ii (io gb _) r) hg).symm
  ·rw[au fun z=>hx (aL.mp (aO.mp z).1)];exact(h3 x `mt i a b r hi ha hb).symm
def Gh {G:List `Id} {m:Nat} {K:Kind} (hl:G.length=K.len) (h:∀r:Row,r.length=K.len->cx G m r=cG K r) {r:Row} (hr:r.length<=K.len):Bt (Lg K) r=cx (G.drop r.length) (iz G m r):=by
 funext s
 show(decide `jL'&&cG K (r++s))=_;rw[<-CI G m r s `mt];by_cases e:(r++s).length=K.len
 ·rw[bp e,dG,h _ e]
 ·rw[bS e,dS];cases q:cx G m (r++s) with
  |false=>rfl
  |true=>exact absurd ((yH q).trans hl) e
def pp {L:Nat}:∀{G:List (List (List Nat))} (_:iG L G) {m:Nat},m<cj G->∀{r:Row},r.length<=G.length->iz G m r<cj (G.drop r.length)
 |G,_,m,hm,[],_=>by
  have:iz G m []=m:=by cases G<;>rfl
  rw[this];exact hm
 | [],_,_,_,x::r,h=>by rw[aF,ja] at h;omega
 |ly::G,g,m,hm,x::r,h=>by
  cases g with
  |cons h1 h2=>
   refine pp h2 ?_ `ew';have hl:=h1.len _ `jR';by_cases hx:x<L
   ·exact h1.lt _ `jg' _ (getD_mem `c1')
   ·rw[ay,bc (by rw[hl];omega)];exact mU h2
def PX {La Lb:Nat} {Ga Gb:List `Id} {ma mb:Nat} {a b:Kind} (ga:iG La Ga) (gb:iG Lb Gb) (Q5:Ga.length=a.len) (MV:Gb.length=b.len) (hl:a.len=b.len) (yc:ma<cj Ga) (yb:mb<cj Gb)
 (ha:∀r:Row,r.length=a.len->cx Ga ma r=cG a r) (hb:∀r:Row,r.length=b.len->cx Gb mb r=cG b r) (ca:Cv a) (cb:Cv b) (hs:a.size+b.size<=3) {i:Nat} (hi:i<=a.len) {ks:List `at'} (nd:ks.Nodup)
 (hk:∀k∈ks,∃r:Row,r.length=i/\k=[iz Ga ma r,iz Gb mb r]):ks.length<8388608:=by
 obtain⟨Ra,ta,Rb,tb,e1,e2,e3,_⟩:=Ps ca cb hs;rw[<-hl] at e2;refine bG (RS nd hi e1 e2 (fun k f g=>∃x y,k=[x,y]/\x<cj `e5'/\y<cj `e6'/\f=cx `e5' x/\g=cx `e6' y) ?_ fun k hkm=>?_) e3
 ·rintro k k' f g ⟨x,y,rfl,hx,hy,rfl,rfl⟩ ⟨x',y',rfl,hx',hy',ef,eg⟩;rw[AR (io ga i) hx hx' ef,AR (io gb i) hy hy' eg]
 ·obtain⟨r,hr,rfl⟩:=hk k hkm;subst hr;refine#[r,rfl,_,_,rfl,pp ga yc `mt,pp gb yb `mt,Gh Q5 ha hi,Gh MV hb `mt]
def qJ (M:Nat) (names:List Nat) (ks step:List `at'):List `at'×List Nat:=step.foldl `bE' (put `bk' ks,[0])
def BB (M:Nat):List `Id->List `Id->List Nat×List Nat×List `Id
 |la::ra,lb::rb=>
  ((qJ M (BB M ra rb).1 [] `am').2,(qJ M (BB M ra rb).2.1 (qJ M (BB M ra rb).1 [] `am').1 `bY').2,
   (qJ M (BB M ra rb).2.1 (qJ M (BB M ra rb).1 [] `am').1 `bY').1::(BB M ra rb).2.2)
 |_,_=>([0,1],[0,1],[])
def sU (names:List Nat) (h0:names.getD 0 0=0) (c:List Nat) (x:Nat):(cH names c).getD x 0=names.getD `no' 0:=by
 unfold cH;rw[wH (f:=fun y=>names.getD y 0) h0]
def uN (names c:List Nat):(cH names c).length=c.length:=by
 unfold cH;rw[ae]
def BV {c d:List Nat} (hl:c.length=d.length) (h:∀x,c.getD x 0=d.getD x 0):c=d:=by
 refine qQ hl fun i h1 h2=>?_;have:=h i;rw[cQ h1,cQ h2] at this;exact this
def Mc {names:List Nat} {L M:Nat} (h0:names.getD 0 0=0):cH names (j5 M `ba')=replicate M 0:=by
 refine BV (by rw[uN,kE,bo]) fun x=>?_;rw[sU _ h0,k0];by_cases h:x<M
 ·rw[qX _ h,k0,h0]
 ·rw[ay (l:=j5 M _),bc (by rw[kE];omega)];exact h0
def J7 {L M k:Nat} {names:List Nat} {ks ly N:List `at'} (hl:so L k ly) (h0:names.getD 0 0=0) (hk:ks=[]\/∃t,ks=replicate M 0::t) (hN:∃e,N=(qJ M names ks `Y').1++e) {x:Nat} (hx:x<ly.length):
 (qJ M names ks `Y').2.getD x 0<N.length/\N.getD ((qJ M names ks `Y').2.getD x 0) []=cH names (j5 M (ly.getD x [])):=by
 obtain⟨e,rfl⟩:=hN;have WS:∃t,put `bk' ks=replicate M 0::t:=by
  rcases hk with rfl| ⟨t,rfl⟩
  ·exact#[[],rfl]
  ·exact#[t,jZ `dG']
 obtain⟨t,ht⟩:=WS;obtain⟨⟨l,e1⟩,m,e2,e3⟩:=jJ names `Y' (put `bk' ks,[0]);have e1:(qJ M names ks `Y').1=replicate M 0::t++l:=by rw[<-ht];exact e1
 have e2:(qJ M names ks `Y').2=[0]++m:=e2;cases x with
 |zero=>
  have hz:(qJ M names ks `Y').2.getD 0 0=0:=by rw[e2];rfl
  rw[hz,e1];refine#[by simp,?_];rw[hl.zero,Mc h0];rfl
 |succ x=>
  have hs:`Y'[x]? =some `hT':=by
   rw[l6,jh 1 x,aR,ao hx,cQ hx];rfl
  have ha:=vX names `Y' (put `bk' ks,[0]) x _ hs;have ha:(qJ M names ks `Y').2[1+x]? =some ((qJ M names ks `Y').1.idxOf (cH names `hT')):=ha;have hm:cH names `hT'∈(qJ M names ks `Y').1:=(nA names _ _ _).mpr (.inr #[_,aQ hs,rfl]);rw[ay,show x+1=1+x by omega,ha];generalize (qJ M names ks `Y').1=N1 at hm;rw[show 1+x=x+1 by omega];have hi:=eV.mpr hm;refine#[by show N1.idxOf _<_;rw[aE];omega,?_];show(N1++e).getD (N1.idxOf _) []=_;rw[ay,cq hi,ao hi,pF];rfl
structure ZZ (M:Nat) (Ga Gb:List `Id) (z:List Nat×List Nat×List `Id):Prop where
 gr:iG M z.2.2
 len:z.2.2.length=Ga.length
 la:z.1.length=cj Ga
 lb:z.2.1.length=cj Gb
 ta:∀x,x<cj Ga->z.1.getD x 0<cj z.2.2
 tb:∀x,x<cj Gb->z.2.1.getD x 0<cj z.2.2
 a0:z.1.getD 0 0=0
 b0:z.2.1.getD 0 0=0
 fa:∀x,x<cj Ga->∀r,cx z.2.2 (z.1.getD x 0) r=cx Ga x r
 fb:∀x,x<cj Gb->∀r,cx z.2.2 (z.2.1.getD x 0) r=cx Gb x r
def Pu {M:Nat} {names:List Nat} {ks ly:List `at'} (h:0<ly.length):(qJ M names ks `Y').2.length=ly.length:=by
 show 102;rw[e2,aE,e3,b6,ae,cz];omega
def Kc {M:Nat} {names:List Nat} {ks ly:List `at'}:(qJ M names ks `Y').2.getD 0 0=0:=by
 show 102;rw[e2];rfl
def E3 {L M:Nat} {names:List Nat} {ly N:List `at'} {rest G:List `Id} {x j:Nat} (hL:L<=M) (g:iG M G) (hl:so L (cj rest) ly) (gr:iG L rest) (h0:names.getD 0 0=0) (hx:x<ly.length) (hj:N.getD j []=cH names (j5 M (ly.getD x []))) (hf:∀y,y<cj rest->∀r,cx G (names.getD y 0) r=cx rest y r) (r:Row):cx (N::G) j r=cx `gd' x r:=by
 cases r with
 |nil=>rfl
 |cons k r=>
  show cx G ((N.getD j []).getD k 0) r=cx rest ((ly.getD x []).getD k 0) r;have oi:=hl.len _ (getD_mem (d:=[]) hx);rw[hj,sU _ h0];by_cases hk:k<M
  ·rw[qX _ hk];refine hf _ ?_ r;by_cases Tq:k<L
   ·exact hl.lt _ (getD_mem hx) _ (getD_mem (by rw[oi];exact Tq))
   ·rw[ay,bc (by rw[oi];omega)];exact mU gr
  ·rw[ay (l:=j5 M _),bc (by rw[kE];omega),ay (l:=ly.getD x []),bc (by rw[oi];omega)];show cx G (names.getD 0 0) r=cx rest 0 r;rw[h0,ii g,ii gr]
def Pz {La Lb M:Nat} (ha:La<=M) (hb:Lb<=M):∀{Ga Gb:List (List (List Nat))},iG La Ga->iG Lb Gb->Ga.length=Gb.length->ZZ M Ga Gb (BB M Ga Gb)
 | [],[],_,_,_=>⟨.nil,rfl,rfl,rfl,fun x hx=>by
  show 80
  rcases this with rfl|rfl<;>first|exact Nat.zero_lt_two|exact Nat.one_lt_two,fun x hx=>by
  show 80
  rcases this with rfl|rfl<;>first|exact Nat.zero_lt_two|exact Nat.one_lt_two,rfl,rfl,fun x hx r=>by
  show 80
  rcases this with rfl|rfl<;>rfl,fun x hx r=>by
  show 80
  rcases this with rfl|rfl<;>rfl⟩
 | [],_::_,_,_,h=>by cases h
 |_::_,[],_,_,h=>by cases h
 |la::ra,lb::rb,ga,gb,h=>by
  cases ga with
  |cons Q5 gra=>
   cases gb with
   |cons MV grb=>
    have ih:=Pz ha hb gra grb `ew';show ZZ M (la::ra) (lb::rb) (_,_,_::(BB M ra rb).2.2);generalize BB M ra rb=z at ih;have p1:∃t,(qJ M z.1 [] `am').1=replicate M 0::t:=by
     obtain⟨⟨l,e1⟩,_⟩:=jJ z.1 `am' (put `bk' [],[0]);exact#[l,e1]
    obtain⟨t,ht⟩:=p1;have p2:∃e,(qJ M z.2.1 (qJ M z.1 [] `am').1 `bY').1=(qJ M z.1 [] `am').1++e:=by
     obtain⟨⟨l,e1⟩,_⟩:=jJ z.2.1 `bY' (put `bk' (qJ M z.1 [] `am').1,[0]);rw[show(put `bk' (qJ M z.1 [] `am').1,([0]:List Nat)).1=(qJ M z.1 [] `am').1 from jZ (by rw[ht];exact aI ..)] at e1;exact#[l,e1]
    have sa:=fun x hx=>J7 Q5 ih.a0 `a8' p2 (x:=x) hx;have sb:=fun x hx=>J7 MV ih.b0 (.inr #[t,ht]) `ij' (x:=x) hx;have TH:∀{L:Nat} {rest:List (List (List Nat))} {ly:List (List Nat)} {names:List Nat},so L (cj rest) ly->iG L rest->names.getD 0 0=0->(∀x,x<cj rest->names.getD x 0<cj z.2.2)->∀ch∈(ly.map (j5 M)).drop 1,(cH names ch).length=M/\∀y∈cH names ch,y<cj z.2.2:=fun{L rest ly names} hl gr h0 ht ch GC=>by
     obtain⟨c,hc,rfl⟩:=aV.mp (nT GC);refine#[by rw[uN,kE],fun y hy=>?_];obtain⟨j,hj,ej⟩:=cg.mp hy;rw[<-ej,<-cQ hj,sU _ h0];refine ht _ ?_;have hjM:j<M:=by rw[uN,kE] at hj;exact hj
     rw[qX _ hjM];by_cases Tq:j<L
     ·exact hl.lt _ hc _ (getD_mem (by rw[hl.len _ hc];exact Tq))
     ·rw[ay,bc (by rw[hl.len _ hc];omega)];exact mU gr
    have WH:∀c∈(qJ M z.2.1 (qJ M z.1 [] ((la.map (j5 M)).drop 1)).1 ((lb.map (j5 M)).drop 1)).1,c.length=M/\∀y∈c,y<cj z.2.2:=fun c hc=>by
     have dead:(replicate M 0).length=M/\∀y∈replicate M 0,y<cj z.2.2:=#[bo,fun y hy=>by rw[(List.mem_replicate.mp hy).2];exact mU ih.gr]
     rcases(nA z.2.1 _ _ _).mp hc with q| ⟨ch,GC,rfl⟩
     ·have q:=q;rcases yp.mp q with q|q
      ·rcases(nA z.1 _ _ _).mp q with q| ⟨ch,GC,rfl⟩
       ·have q:c∈put `bk' []:=q;rcases yp.mp q with q|q
        ·cases q
        ·rw[q];exact dead
       ·exact TH Q5 gra ih.a0 ih.ta ch GC
      ·rw[q];exact dead
     ·exact TH MV grb ih.b0 ih.tb ch GC
    have KM:so M (cj z.2.2) (qJ M z.2.1 (qJ M z.1 [] `am').1 `bY').1:=by
     refine#[?_,?_,?_,fun c hc=>(WH c hc).1,fun c hc=>(WH c hc).2]
     ·obtain⟨e,he⟩:=p2;rw[he,ht];rfl
     ·obtain⟨e,he⟩:=p2;rw[he,ht];exact jQ _
     ·refine og z.2.1 _ _ ?_;refine qZ (og z.1 _ _ ?_);exact qZ .nil
    refine#[.cons KM ih.gr,by show z.2.2.length+1=ra.length+1;rw[ih.len],Pu Q5.pos,Pu MV.pos,fun x hx=>(sa x hx).1,fun x hx=>(sb x hx).1,Kc,Kc,fun x hx r=>?_,fun x hx r=>?_]
    ·exact E3 ha ih.gr Q5 gra ih.a0 hx (sa x hx).2 ih.fa r
    ·exact E3 hb ih.gr MV grb ih.b0 hx (sb x hx).2 ih.fb r
def mZ (ly:List `at') (l r x:Nat):Bool:=(ly.getD l []).getD x 0 != (ly.getD r []).getD x 0
def E6 (M:Nat):List `Id->Nat->Nat->Row
 | [],_,_=>[]
 |ly::rest,l,r=>`aP'::E6 M rest ((ly.getD l []).getD `aP' 0) ((ly.getD r []).getD `aP' 0)
def EL {M k:Nat} {ly:List `at'} (h:so M k ly) {l r:Nat} (hl:l<ly.length) (hr:r<ly.length) (hn:l≠r):∃x,(List.range M).find? (mZ ly l r)=some x/\x<M/\mZ ly l r x=true/\∀y,y<x->mZ ly l r y=false:=by
 cases e:(List.range M).find? (mZ ly l r) with
 |none=>
  exfalso;refine hn ((jH (h₀:=hl) (h₁:=hr) h.nd).mp ?_);rw[<-cQ (d:=[]) hl,<-cQ (d:=[]) hr];refine BV (by rw[h.len _ (getD_mem hl),h.len _ (getD_mem hr)]) fun x=>?_;by_cases hx:x<M
  ·have:=pG.mp e x (aL.mpr hx);unfold mZ at this
   simpa using this
  ·have z1:∀{c:List Nat},c.length=M->c.getD x 0=0:=fun{c} hc=>by rw[ay,bc `mt];rfl
   rw[z1 (h.len _ (getD_mem hl)),z1 (h.len _ (getD_mem hr))]
 |some x=>
  obtain⟨h1,i,hi,h2,h3⟩:=nr.mp e;rw[jT] at h2;subst h2;rw[bv] at hi;refine#[i,rfl,hi,h1,fun y hy=>?_];have:=h3 y hy;rw[jT] at this
  simpa using this
def T4 {M:Nat}:∀{G:List (List (List Nat))} (_:iG M G) {l r:Nat},l<cj G->r<cj G->l≠r->
 (E6 M G l r).length=G.length/\(∀x∈E6 M G l r,x<M)/\cx G l (E6 M G l r)≠cx G r (E6 M G l r)/\∀s:Row,s.length=G.length->cx G l s≠cx G r s->s=E6 M G l r\/before (E6 M G l r) s=true
 | [],_,l,r,hl,hr,hn=>by
  refine#[rfl,fun x hx=>(by cases hx),?_,fun s hs _=>.inl (bV.mp hs)];show(l==1)≠(r==1)
  have hl:l<2:=hl;have hr:r<2:=hr;have h1:l=0\/l=1:=by omega
  have h2:r=0\/r=1:=by omega
  rcases h1 with rfl|rfl<;>rcases h2 with rfl|rfl<;>first|exact absurd rfl hn|decide
 |ly::rest,g,l,r,hl,hr,hn=>by
  cases g with
  |cons h gr=>
   obtain⟨x,e,hx,hd,hb⟩:=EL h hl hr hn;have ew:E6 M `gd' l r=x::E6 M rest ((ly.getD l []).getD x 0) ((ly.getD r []).getD x 0):=by
    show `aP'::E6 M rest ((ly.getD l []).getD `aP' 0) ((ly.getD r []).getD `aP' 0)=_;rw[e];rfl
   rw[ew];have TH:∀m,m<ly.length->(ly.getD m []).getD x 0<cj rest:=fun m hm=>h.lt _ `jg' _ (getD_mem (by rw[h.len _ `jg'];exact hx));have lH:(ly.getD l []).getD x 0≠(ly.getD r []).getD x 0:=by
    unfold mZ at hd
    simpa using hd
   obtain⟨i1,i2,i3,i4⟩:=T4 gr (TH l hl) (TH r hr) lH;refine#[by rw[aF,i1,aF],fun y hy=>?_,i3,fun s hs QG=>?_]
   ·show 114
    ·exact hx
    ·exact i2 y hy
   ·cases s with
    |nil=>cases hs
    |cons y s=>
     have QG:cx rest ((ly.getD l []).getD y 0) s≠cx rest ((ly.getD r []).getD y 0) s:=QG;rcases Nat.lt_trichotomy y x with c|c|c
     ·exfalso;have:=hb y c;unfold mZ at this;have this:(ly.getD l []).getD y 0=(ly.getD r []).getD y 0:=by simpa using this
      exact QG (by rw[this])
     ·subst c;rcases i4 s (by simpa using hs) QG with q|q
      ·exact .inl (by rw[q])
      ·refine .inr ?_;show(decide (y<y)||(y==y&&before _ s))=true;rw[q];simp
     ·refine .inr ?_;show(decide (x<y)||_)=true;rw[bp c,rD]
def tG:∀{r s:Row},before r s=true->before s r=true->False
 | [],_,h,_=>by
  cases h
 |_::_,[],h,_=>by
  cases h
 |x::r,y::s,h1,h2=>by
  have h1:(decide (x<y)||(x==y&&before r s))=true:=h1;have h2:(decide (y<x)||(y==x&&before s r))=true:=h2;rw[lT,aX,bK,gv] at h1 h2;rcases h1 with a| ⟨a,a'⟩
  ·rcases h2 with b| ⟨b,_⟩<;>omega
  ·rcases h2 with b| ⟨_,b'⟩
   ·omega
   ·exact tG a' b'
def CG (g:Nat->Nat):∀(l:List Nat) (z:Nat×Nat),k5 g l 0=some z->z.2=0/\0<g z.1/\∃a b,l=a++z.1::b/\∀y∈a,g y=0
 | [],_,h=>by cases h
 |x::l,z,h=>by
  by_cases c:0<g x
  ·have e:k5 g (x::l) 0=some (x,0):=aD c;rw[e] at h;cases h;exact#[rfl,c,[],l,rfl,fun y hy=>(by cases hy)]
  ·have e:k5 g (x::l) 0=k5 g l (0 - g x):=au c;rw[e,Nat.zero_sub] at h;obtain⟨h1,h2,a,b,h3,h4⟩:=CG g l z h;refine#[h1,h2,x::a,b,by rw[h3];rfl,fun y hy=>?_];show 114
   ·omega
   ·exact h4 y hy
def EV {M x:Nat}:∀{a b:List Nat},List.range M=a++x::b->(∀y,y<x->y∈a)/\x<M:=fun{a b} h=>by
 have hx:`ia'[a.length]? =some x:=by rw[h,df (ax _),lc];rfl
 obtain⟨h1,h2⟩:=bd.mp hx;rw[jT] at h2;rw[bv] at h1;refine#[fun y hy=>?_,by omega];have:`ia'[y]? =some y:=eZ `mt;rw[h,cq `mt] at this;exact aQ this
def JA {L:Nat}:∀(n:Nat) (f:Row->Bool) (r:Row),r.length=n->(∀x∈r,x<L)->f r=true->0<num L n f:=fun n f r h1 h2 h3=>by
 have:r∈LH L n f:=mem_allR.mpr `ju';rw[<-ql];exact jS this
def vP {L:Nat}:∀(n:Nat) (f:Row->Bool),0<num L n f->(js L n f 0).length=n/\(∀x∈js L n f 0,x<L)/\f (js L n f 0)=true/\∀s:Row,s.length=n->(∀x∈s,x<L)->f s=true->s=js L n f 0\/before (js L n f 0) s=true
 |0,f,h=>by
  have h:0< `gP':=h;refine#[rfl,fun x hx=>(by cases hx),?_,fun s hs _ _=>.inl (bV.mp hs)];by_cases c:f []=true
  ·exact c
  ·rw[au c] at h;exact absurd h (dz _)
 |n+1,f,h=>by
  obtain⟨z,hz⟩:=tV h;obtain⟨h1,h2,a,b,h3,h4⟩:=CG _ _ z hz;obtain⟨h5,h6⟩:=EV h3;have e:js L (n+1) f 0=z.1::js L n `nC' 0:=by
   show(match k5 (fun x=>num L n `nB') `eu' 0 with
    |none=>[]
    |some z=>z.1::js L n `nC' z.2)=_
   rw[hz];show z.1::js L n `nC' z.2=_;rw[h1]
  rw[e];obtain⟨i1,i2,i3,i4⟩:=vP n `nC' h2;refine#[by rw[aF,i1],fun y hy=>?_,i3,fun s hs hl hf=>?_]
  ·show 114
   ·exact h6
   ·exact i2 y hy
  ·cases s with
   |nil=>cases hs
   |cons y s=>
    have hsn:s.length=n:=by simpa using hs
    have WQ:=fun x hx=>hl x (aK _ hx);rcases Nat.lt_trichotomy y z.1 with c|c|c
    ·exfalso;have h0:=h4 y (h5 y c);have:=JA n (tl f y) s hsn WQ hf;have h0:=h0;omega
    ·subst c;rcases i4 s hsn WQ hf with q|q
     ·exact .inl (by rw[q])
     ·refine .inr ?_;show(decide (z.1<z.1)||(z.1==z.1&&before _ s))=true;rw[q];simp
    ·refine .inr ?_;show(decide (z.1<y)||_)=true;rw[bp c,rD]
def Ov {a b:Kind} (hl:a.len=b.len) {w:Row} (hw:w.length=a.len) (hd:cG a w≠cG b w) (hf:∀s:Row,s.length=a.len->cG a s≠cG b s->s=w\/before w s=true):apart a b=some w:=by
 have WK:∀{c d:Kind},c.len=a.len->d.len=a.len->(∀s:Row,s.length=a.len->cG c s=true->cG d s=false->s=w\/before w s=true)->
  ((opened `fK').row 0=none/\∀s:Row,s.length=a.len->¬(cG c s=true/\cG d s=false))\/∃x,(opened `fK').row 0=some x/\(cG c x=true/\cG d x=false)/\x.length=a.len/\∀s:Row,s.length=a.len->cG c s=true->cG d s=false->s=x\/before x s=true:=fun{c d} hc wn hh=>by
  rw[Aj];have key:∀s:Row,cG `fK' s=true↔cG c s=true/\cG d s=false:=fun s=>by
   rw[t8,aX,mM]
  by_cases hp:0<num c.letters c.len (cG `fK')
  ·right
   obtain⟨i1,i2,i3,i4⟩:=vP c.len (cG `fK') hp;refine#[_,aD hp,(key _).mp i3,i1.trans hc,fun s hs h1 h2=>i4 s (by rw[hs,hc]) (DR h1) ((key s).mpr `lC')]
  ·left
   refine#[au hp,fun s hs h=>hp (JA _ _ s (by rw[hs,hc]) (DR h.1) ((key s).mpr h))]
 have xor:∀s:Row,cG a s≠cG b s↔(cG a s=true/\cG b s=false)\/(cG b s=true/\cG a s=false):=fun s=>by
  cases cG a s<;>cases cG b s<;>simp
 have hA:=WK rfl hl.symm fun s hs h1 h2=>hf s hs ((xor s).mpr (.inl `lC'));have hB:=WK hl.symm rfl fun s hs h1 h2=>hf s hs ((xor s).mpr (.inr `lC'));have eqw:∀{x:Row},x.length=a.len->cG a x≠cG b x->(w=x\/before x w=true)->x=w:=fun{x} h1 h2 h3=>by
  rcases hf x h1 h2 with q|q
  ·exact q
  ·rcases h3 with z|z
   ·exact z.symm
   ·exact(tG q z).elim
 unfold apart;rcases(xor w).mp hd with⟨w1,w2⟩| ⟨w1,w2⟩
 ·rcases hA with⟨_,n1⟩| ⟨x,e1,x1,x2,x3⟩
  ·exact(n1 w hw #[w1,w2]).elim
  ·have hx:=eqw x2 ((xor x).mpr (.inl x1)) (x3 w hw w1 w2);subst hx;rcases hB with⟨e2,_⟩| ⟨y,e2,y1,y2,y3⟩
   ·rw[e1,e2]
   ·rw[e1,e2];show `ig'=some x;rcases hf y y2 ((xor y).mpr (.inr y1)) with q|q
    ·rw[q,ite_self]
    ·rw[aD q]
 ·rcases hB with⟨_,n1⟩| ⟨y,e2,y1,y2,y3⟩
  ·exact(n1 w hw #[w1,w2]).elim
  ·have hy:=eqw y2 ((xor y).mpr (.inr y1)) (y3 w hw w1 w2);subst hy;rcases hA with⟨e1,_⟩| ⟨x,e1,x1,x2,x3⟩
   ·rw[e1,e2]
   ·rw[e1,e2];show `ig'=some y;rcases hf x x2 ((xor x).mpr (.inl x1)) with q|q
    ·rw[q,ite_self]
    ·rw[au fun z=>tG q z]
def G9 {a b:Kind} (hl:a.len=b.len) (h:∀s:Row,s.length=a.len->cG a s=cG b s):apart a b=none:=by
 have X2:∀{c d:Kind},c.len=a.len->(∀s:Row,s.length=a.len->cG c s=cG d s)->(opened `fK').row 0=none:=fun{c d} hc hh=>by
  rw[Aj];refine au fun hp=>?_;have hp:0<num c.letters c.len (cG `fK'):=hp;obtain⟨i1,i2,i3,i4⟩:=vP c.len (cG `fK') hp;rw[t8,hh _ (i1.trans hc)] at i3;cases q:cG d (js c.letters c.len (cG `fK') 0)<;>rw[q] at i3<;>cases i3
 unfold apart;rw[X2 rfl h,X2 hl.symm fun s hs=>(h s hs).symm]
end RR
namespace RP
open PySem PySem.Spec PyProof.Rows L2 RR
variable {P:bN} {w:cV} {K:ai} {mg:Str->Option aA} {base:cZ}
def my (i:Nat):du:=PySem.Challenge.pw_rankroom_s01_answers.main.body.getD i (.Pass `iW')
abbrev Ju:du:=oW (my 3) 0
abbrev C4:du:=my 4
abbrev Ee:du:=my 5
abbrev C1:du:=my 6
abbrev uO:du:=my 7
abbrev DD:du:=my 8
abbrev nV (n:Nat):V:=.int (n:Int)
def k4 (H:Hp) (a:ak) (cs:List `at'):Prop:=∃as:List ak,H a=some `aq'/\Paired `ad' as cs
def fE {α β:Type} {R:α->β->Prop}:∀{l:List α} {m:List β},Paired R l m->∀{i:Nat} {a:α},l[i]? =some a->∃b,m[i]? =some b/\R a b
 |_,_,.nil,_,_,h=>by cases h
 |_,_,.cons h _,0,_,e=>by cases e;exact `f0'
 |_,_,.cons _ t,i+1,_,e=>fE t (i:=i) e
def xJ {H H':Hp} (s:aM H H'):∀{as:List ak} {cs:List (List Nat)},Paired `ad' as cs->Paired (fun b (c:List Nat)=>H' b=some `iu') as cs
 |_,_,.nil=>.nil
 |_,_,.cons h t=>.cons (s _ _ h) (xJ s t)
def k4.same {H H':Hp} {a:ak} {cs:List `at'} (t:k4 H a cs) (s:aM H H'):k4 H' a cs:=let⟨as,h,p⟩:=t;#[as,s _ _ h,xJ s p]
def aM.new {H:Hp} {l:ak} {o:HO} (h:H l=Option.none):aM H (bO H l o):=fun b u e=>by rw[aZ (a9 e h)];exact e
def aM.put {H H':Hp} {l:ak} {o:HO} (s:aM H H') (h:H l=Option.none):aM H (bO H' l o):=fun b u e=>by rw[aZ (a9 e h)];exact s b u e
def ym (l:List Nat):(l.map fun(n:Nat)=>(n:Int)).sum=((Wqarao.sum l:Nat):Int):=by
 induction l with
 |nil=>rfl
 |cons a l ih=>rw[bw,List.sum_cons,ih,RR.sum_cons];omega
def vT {α β:Type} (f:α->β) {l:List α} {i:Nat} {x:α} (h:l[i]? =some x):(l.take (i+1)).map f=(l.take i).map f++[f x]:=by
 obtain⟨hi,e⟩:=bd.mp h;rw[kN,h,bj];rfl
structure Txt0 (K:ai) (mg:Str->Option aA):Prop where
 nSum:mg "sum"=none
def Sw (K:ai):Sp:=fun vs H Q _=>∃(a b:ak) (cs:List (List Nat)) (ws:List Nat),vs=[.ref a,.ref b]/\k4 H a cs/\H b=some `er'/\(∀c∈cs,∀y∈c,y<ws.length)/\cs.length<=sizeLine/\(∀c∈cs,c.length<sizeLine)/\
 ∀(H':Hp) (l:ak),aM H H'->H l=Option.none->H' l=some (.lst ((cs.map fun c=>Wqarao.sum `eP').map nV))->Q `cp' H'
def vn:bY ["nodes","ways_behind","ways","node","child"] `fJ' (aw DD):=`dl
def OD {f:ak} {fd:aH} (F:nv K "count_ways" "count_ways" DD f fd) (T:Txt0 K mg):bT P w K mg base dj 1 f fd `fJ' (Sw K):=by
 refine F.ok vn `ST `LE
 ·obtain⟨a,b,cs,ws,rfl,_⟩:=h;rfl
 ·obtain⟨a,b,cs,ws,rfl,⟨as,hA,hT⟩,hB,jB,hz,hzc,k⟩:=h;refine⟨_,am (`n1' vn.nd rfl `Cl `l6')
   (am (mf cD rfl (iF (pv 0)) (cp (i:=3) vn.nd rfl `Cl)
    (aG (gZ (nZ bu bX bW gN (pv 2)
     (aa (dq (C6 rfl) `IO T.nSum boot_sum (aa (jN (own:=[("child",4)]) rfl vn.nd (DC (pv 3)) (di `IO) (fun _ _ _ _ _=>cp (i:=4) vn.nd rfl `Cl) `aw'
      (fun _ _ _ _ _=>bz (r:=ic K) bi (pv 1) (pv 4) `Ch)) aB)) aB)))))
   (aG (aY (pv 2)))),?_⟩
  refine⟨aN _,fun q hq=>?_⟩;have s1:aM H (bO H q `bo'):=aM.new hq;refine⟨_,rfl,a,rfl,⟨_,SqL.of (s1 _ _ hA)⟩,pI (K:=K) (a:=a) (xs:=as.map V.ref) (fun i σ H'=>∃v:Option V,σ=[some `bu',some `i4',some (.ref q),v,none]/\aM H H'/\
   H' q=some (.lst (((cs.map fun c=>Wqarao.sum `eP').take i).map nV)))
   #[none,rfl,s1,aq] (fun i σ H' _ ⟨_,_,s2,_⟩=>SqL.of (s2 _ _ hA)) ?_ ?_⟩
  ·rintro i y σ H' hi ⟨v,rfl,s2,sw⟩;obtain⟨c0,Jp,rfl⟩:∃c0,as[i]? =some c0/\y=V.ref c0:=by
    rw[aR] at hi;cases e:as[i]? with
    |none=>rw[e] at hi;cases hi
    |some z=>rw[e] at hi;exact#[z,rfl,(aP hi).symm]
   obtain⟨c,hc,ye⟩:=fE hT Jp;have QO:c∈cs:=aQ hc;have hz2:((cs.map fun c=>Wqarao.sum `eP').take i).length<sizeLine:=by
    have:=(bd.mp hc).1;rw[be,ae];omega
   refine⟨_,rfl,.inl ⟨rfl,_,SqL.of sw⟩,_,rfl,c0,rfl,⟨_,iX.of (s2 _ _ ye)⟩,fun D hD=>IP (K:=K) (a:=c0) (xs:=c.map nV) (fun j H3=>aM H' H3/\H3 D=some (.lst (((c.map fun y=>ws.getD y 0).take j).map nV)))
    #[aM.new hD,aq] (fun j H3 _ ⟨s3,_⟩=>iX.of (s3 _ _ (s2 _ _ ye))) ?_ ?_⟩
   ·rintro j x H3 hj ⟨s3,TF⟩;obtain⟨n,hn,rfl⟩:∃n,c[j]? =some n/\x=nV n:=by
     rw[aR] at hj;cases e:c[j]? with
     |none=>rw[e] at hj;cases hj
     |some z=>rw[e] at hj;exact#[z,rfl,(aP hj).symm]
    have KO:=jB c QO n (aQ hn);refine#[rfl,_,rfl,_,rfl,b,_,_,nV (ws.getD n 0),rfl,rfl,SqL.of (s3 _ _ (s2 _ _ hB)),bx ?_,_,TF,?_,?_,?_]
    ·rw[aR,ao KO,cQ KO];rfl
    ·rw[ae,be,ae];have:=hzc c QO;omega
    ·exact aM.put s3 hD
    ·rw[aq,vT nV (i:=j) (x:=ws.getD n 0) (by rw[aR,hn];rfl)]
   ·rintro H3 ⟨s3,TF⟩;rw[ae] at TF;have e1:((c.map fun y=>ws.getD y 0).take c.length).map nV=((c.map fun y=>ws.getD y 0).map fun(n:Nat)=>(n:Int)).map V.int:=by
     rw[cS `f5'];simp only[eK];rfl
    rw[e1] at TF;refine#[D,_,rfl,SqL.of TF,q,_,_,rfl,rfl,s3 _ _ sw,by rw[ae];exact hz2,?_];refine#[_,rfl,fun b' o e=>?_,?_]
    ·rw[aZ (a9 e hq)];exact s3 _ _ (s2 _ _ e)
    ·rw[aq,ym,vT nV (i:=i) (by rw[aR,hc];rfl)]
  ·rintro σ H' ⟨v,rfl,s2,sw⟩;refine `jt';have hl:(as.map V.ref).length=(cs.map fun c=>Wqarao.sum `eP').length:=by rw[ae,ae,bH hT]
   rw[hl,eU] at sw;exact k H' q s2 hq sw
def i5 (c:List Nat):List nB:=c.map fun(n:Nat)=>Sum.inl (n:Int)
def rF (c:List Nat):(i5 c).map kV=c.map nV:=by
 unfold i5;rw[eK];rfl
def k6 {a b:List Nat} (h:i5 a=i5 b):a=b:=by
 induction a generalizing b with
 |nil=>
  cases b with
  |nil=>rfl
  |cons _ _=>cases h
 |cons x a ih=>
  cases b with
  |nil=>cases h
  |cons y b=>
   injection h with h1 h2
   injection h1 with h1
   rw[ih h2,show x=y by omega]
def iV {κ κ':Type} (f:κ->κ'):Nat->List κ->List (κ'×V)
 |_,[]=>[]
 |k,c::r=>(f c,nV k)::iV f (k+1) r
def kZ {κ κ':Type} (f:κ->κ'):∀(ks:List κ) (k:Nat),(iV f k ks).length=ks.length
 | [],_=>rfl
 |_::r,k=>by
  show(iV f (k+1) r).length+1=r.length+1;rw[kZ f r]
def rk {κ κ':Type} (f:κ->κ') (c:κ):∀(ks:List κ) (k:Nat),iV f k (ks++[c])=iV f k ks++[(f c,nV (k+ks.length))]
 | [],_=>rfl
 |a::r,k=>by
  show(f a,nV k)::iV f (k+1) (r++[c])=(f a,nV k)::(iV f (k+1) r++[_])
  rw[rk f c r (k+1),aF,show k+1+r.length=k+`ny' by omega]
def iK {κ κ':Type} [BEq κ] [LawfulBEq κ] [DecidableEq κ'] {f:κ->κ'} (inj:∀a b,f a=f b->a=b) (c:κ):∀(ks:List κ) (k:Nat),(c∈ks->iA (iV f k ks) (f c)=some (nV (k+ks.idxOf c)))/\(¬c∈ks->iA (iV f k ks) (f c)=none)
 | [],_=>#[fun h=>(by cases h),fun _=>rfl]
 |a::r,k=>by
  have ih:=iK inj c r (k+1);by_cases e:a=c
  ·subst e;refine#[fun _=>?_,fun h=>absurd `dG' h];show iA ((f a,nV k)::iV f (k+1) r) (f a)=_;rw[jl rfl,kO];rfl
  ·have e2:iA (iV f k (a::r)) (f c)=iA (iV f (k+1) r) (f c):=iT fun z=>e (inj a c z);rw[e2];refine#[fun h=>?_,fun h=>ih.2 fun z=>h (aK _ z)];have hm:=(bh.mp h).resolve_left fun z=>e z.symm;rw[ih.1 hm,List.idxOf_cons,show(a==c)=false by simpa using e];show some (nV _)=some (nV (k+(r.idxOf c+1)));rw[show k+1+r.idxOf c=k+(r.idxOf c+1) by omega]
def ul (H:Hp) (a:ak) (cs:List `at'):Prop:=∃as:List ak,H a=some `aq'/\Paired `hr' as cs
def wT {as:List ak} {i:Nat} {y:V} (h:(as.map V.ref)[i]? =some y):∃c,as[i]? =some c/\y=V.ref c:=by
 rw[aR] at h;cases e:as[i]? with
 |none=>rw[e] at h;cases h
 |some z=>rw[e] at h;exact#[z,rfl,(aP h).symm]
def OR {ns:List Nat} {i:Nat} {y:V} (h:(ns.map nV)[i]? =some y):∃n,ns[i]? =some n/\y=nV n:=by
 rw[aR] at h;cases e:ns[i]? with
 |none=>rw[e] at h;cases h
 |some z=>rw[e] at h;exact#[z,rfl,(aP h).symm]
structure Txt1 (K:ai) (mg:Str->Option aA):Prop extends Txt0 K mg where
 nTuple:mg "tuple"=none
 nLen:mg "len"=none
 dead:∃t,mg "DEAD"=some (.int 0 t)
def Ss:Sp:=fun vs H Q _=>∃(st nm nd:ak) (L:Nat) (step:List (List Nat)) (names:List Nat),vs=`mG'/\ul H st step/\H nm=some (.lst (names.map nV))/\H nd=some `m6'/\L<=20/\step.length<sizeLine/\
 (∀c∈step,c.length<=20/\∀y∈c,y<names.length)/\
 ∀(H':Hp) (l:ak),(∀b o,H b=some o->b≠nd->H' b=some o)->H l=Option.none->H' l=some (.lst ((fj L names step).2.map nV))->H' nd=some (.dT (iV i5 0 (fj L names step).1))->Q `cp' H'
def lV:bY ["step","letters","names","nodes","own_names","children","node","child"] `a1' (aw uO):=`dl
def pf (names:List Nat):∀(step:List (List Nat)) (z:List (List Nat)×List Nat),(step.foldl `bE' z).1.length<=z.1.length+step.length
 | [],z=>ax _
 |c::step,z=>by
  rw[dI,aF];have:=pf names step `ic';have e:(cP names z c).1.length<=z.1.length+1:=by
   show(RR.put _ z.1).length<=_;by_cases h:cH names c∈z.1
   ·rw[jZ h];omega
   ·rw[mS h,aE];exact ax _
  omega
def tT {α β:Type} (f:β->α->β) (z:β) {l:List α} {i:Nat} {x:α} (h:l[i]? =some x):(l.take (i+1)).foldl f z=f ((l.take i).foldl f z) x:=by
 rw[kN,h,qj];rfl
def yj {H:Hp} {a:ak} {L:Nat} {v:V} {Q:VK} (ha:H a=some (.tup [v])) (hL:L<=sizeLine) (h:∀b H3,aM H H3->H3 b=some (.tup (replicate L v))->Q `i4' H3):Fg K `bu' (nV L) H Q:=by
 refine#[a,L,v,rfl,rfl,iX.of ha,by omega,by omega,fun e=>h a H (fun _ _ z=>z) ?_,fun _ p hp=>h p _ `fQ' ?_]
 ·have:L=1:=by omega
  subst this;exact ha
 ·rw[aq];simp
def oU (d:ak) (H H':Hp):Prop:=∀b o,H b=some o->b≠d->H' b=some o
def oU.of {d:ak} {H H':Hp} (s:aM H H'):oU d H H':=fun b o e _=>s b o e
def oU.trans {d:ak} {H H1 H2:Hp} (s:oU d H H1) (t:oU d H1 H2):oU d H H2:=fun b o e h=>t b o (s b o e h) h
def oU.put {d:ak} {H H':Hp} {l:ak} {o:HO} (s:oU d H H') (h:H l=Option.none):oU d H (bO H' l o):=fun b u e z=>by rw[aZ (a9 e h)];exact s b u e z
def oU.here {d:ak} {H H':Hp} {o:HO} (s:oU d H H'):oU d H (bO H' d o):=fun b u e z=>by rw[aZ z];exact s b u e z
def QC {f:ak} {fd:aH} (F:nv K "merge" "merge" uO f fd) (T:Txt1 K mg):bT P w K mg base dj 1 f fd `a1' Ss:=by
 refine F.ok lV `ST `LE
 ·obtain⟨st,nm,nd,L,step,names,rfl,_⟩:=h;rfl
 ·obtain⟨st,nm,nd,L,step,names,rfl,⟨as,hA,hT⟩,hN,hD,hL,hz,hc,k⟩:=h;obtain⟨td,gu⟩:=T.dead;have hu:=ux hr;refine⟨_,am (DP hu (pv 3) (cJ yz (eP (aa (`nX' `IO gu ⟨td,rfl⟩) aB)) (pv 1)) (`nX' `IO gu ⟨td,rfl⟩) rfl)
   (am (`n9' lV.nd rfl `Cl (db (aa (`nX' `IO gu ⟨td,rfl⟩) aB)))
   (am (mf cD rfl (iF (pv 0)) (cp (i:=5) lV.nd rfl `Cl)
    (am (`od' lV.nd rfl `Cl (mw qG `IO T.nTuple boot_tuple (aa (`oi' rfl lV.nd (iF (pv 5)) (di `IO) (fun _ _ _ _ _=>cp (i:=7) lV.nd rfl `Cl) `aw'
     (fun _ _ _ _ _=>bz (r:=ic K) bi (pv 2) (pv 7) `Ch)) aB)))
    (aG (gZ (nZ bu bX bW gN (pv 4)
     (aa (AS hu (pv 3) (pv 6) (dq xo `IO T.nLen cY `aY') `lE') aB))))))
   (aG (aY (pv 4))))),?_⟩
  show 222;have s3:=(aM.new hp).trans s3;have ez:replicate L (V.int 0)=(i5 `ba').map kV:=by rw[rF,l5];rfl
  rw[ez] at hb;have Uj:(0:Nat)<sizeLine:=by decide
  show 116
  refine `iI';have hq3:H3 q=Option.none:=by
   have lH:q≠nd:=fun z=>by rw[z,aq] at hq;cases hq
   rw[aZ lH] at hq;exact hq
  have uh:=s3.free hq3;have Uo:nd≠q:=fun z=>kI q uh z.symm;have pn:∀b,b∈as->b≠nd:=fun b hb=>by
   show 119
  have Nz:=eD hA hD `XL;have Us:=eD hN hD `XL;refine⟨_,rfl,st,rfl,⟨as.map V.ref,SqL.of ?_⟩,pI (fun i σ H'=>∃v v2:Option V,σ=`aA'/\oU nd H H'/\
   H' q=some (.lst (((step.take i).foldl `bE' (`bH',[0])).2.map nV))/\H' nd=some (.dT (iV i5 0 ((step.take i).foldl `bE' (`bH',[0])).1)))
   #[none,none,rfl,?_,aq,?_] `gu' ?_ ?_⟩
  ·rw[aZ (a9 hA uh),aZ Nz];exact s3 _ _ hA
  ·exact((oU.of s3).here).put uh
  ·rw[aZ Uo,aq];rfl
  ·show 86;have QO:=aQ tN;have Xy:=(bd.mp tN).1;have Nm:=pn c0 (aQ Jp);have yE:((step.take i).foldl `bE' (`bH',[0])).1.length<sizeLine:=by
    have:=pf names `mg' (`bH',[0]);rw[be,cz] at this;omega
   have KQ:((step.take i).foldl `bE' (`bH',[0])).2.length<sizeLine:=by
    obtain⟨_,m,e,hm⟩:=jJ names `mg' (`bH',[0]);rw[e,aE,hm,be,cz];omega
   rw[tT `bE' _ tN];generalize (step.take i).foldl `bE' (`bH',[0])=z at sw wn yE KQ;refine⟨_,rfl,c0,rfl,⟨_,SqL.of `lj'⟩,fun D UV=>Kp `eW'
    #[aM.new UV,aq] (fun j H3 _ ⟨s3,_⟩=>SqL.of (s3 _ _ `lj')) ?_ ?_⟩
   ·show 96
    ·rw[aR,ao KO,cQ KO];rfl
    ·show 131
     omega
    ·exact aM.put s4 UV
    ·rw[aq,vT nV `nn']
   ·show 107
    show 25
    have Bg:H l=Option.none:=by
     have sJ:=s4.free hl;cases e:H l with
     |none=>rfl
     |some o=>
      by_cases z:l=nd
      ·rw[z,wn] at sJ;cases sJ
      ·rw[s2 l o e z] at sJ;cases sJ
    have oH:∀(v:Nat) (H6:Hp),oU nd H H6->H6 q=some (.lst (z.2.map nV))->H6 nd=some (.dT (iV i5 0 (RR.put `c2' z.1)))->v=(RR.put `c2' z.1).idxOf `c2'->
     ∃l_1 xs y,V.ref q=V.ref l_1/\[nV v]=[y]/\H6 l_1=some `bh'/\xs.length<sizeLine/\(fun σ H'=>∃v v2:Option V,σ=`aA'/\oU nd H H'/\
      H' q=some `lH'/\H' nd=some `lG') [some (.ref st),some (nV L),some (.ref nm),some (.ref nd),some (.ref q),some (.ref c0),some `cp',none] (bO H6 l_1 `i2'):=fun v H6 s6 h1 h2 h3=>by
     refine `fw'
     ·rw[aq,h3];show _=some `ne';rw[bj];rfl
     ·rw[aZ Uo];exact h2
    have XT:=s2.trans (oU.of s5);refine `a3'
    ·show 155
     ·show 92
     ·rw[(iK `eh' _ _ _).2 hm] at hv;cases hv
    ·show 155
     ·rw[(iK `eh' _ _ _).1 hm] at hv;cases hv
     ·refine oH (iV i5 0 z.1).length _ XT.here ?_ ?_ ?_
      ·rw[aZ Uo.symm];exact US
      ·rw[aq,mS hm,rk,cE,kZ]
      ·rw[mS hm,mD,au hm,kO,kZ];omega
  ·show 100
   show 225
structure Sk (κ:Type) [BEq κ] [LawfulBEq κ] where
 ky:Type
 dec:DecidableEq ky
 f:κ->ky
 inj:∀a b,f a=f b->a=b
 dct:List (ky×V)->HO
 rep:Hp->V->κ->Prop
 keep:∀{H H':Hp} {v:V} {k:κ},rep H v k->(∀b ys,H b=some `eb'->H' b=some `eb')->rep H' v k
 kindL:∀kvs xs,dct kvs≠ .lst xs
 kindT:∀kvs xs,dct kvs≠ .tup xs
 new:∀{X:Cx} {pos:Pos},PE X `ms' (fun _ H Q=>∀p,H p=Option.none->Q `dR' (bO H p (dct [])))
 isD:∀{H:Hp} {a:ak} {kvs:List (ky×V)},H a=some (dct kvs)->IsD H a
 len:∀{H:Hp} {a:ak} {kvs:List (ky×V)} {Q:VK},H a=some (dct kvs)->Q `is' H->T3 `eH' H Q
 setd:∀{H:Hp} {a:ak} {ks:List κ} {k:κ} {v:V} {Q:VK},H a=some (dct (iV f 1 ks))->rep H v k->ks.length<sizeLine->(k∈ks->Q (nV (ks.idxOf k+1)) H)->(¬k∈ks->Q (nV (ks.length+1)) (bO H a (dct (iV f 1 (ks++[k])))))->DSd H a v (nV (ks.length+1)) Q
 lst:∀{H:Hp} {a:ak} {ks:List κ} {Q:VK},H a=some (dct (iV f 1 ks))->(∀l xs,H l=Option.none->Paired (rep H) xs ks->Q `cp' (bO H l `bh'))->wN `eH' H Q
def OB (n:Nat):nB:=Sum.inl (n:Int)
def C9:Sk Nat where
 ky:=nB
 dec:=inferInstance
 f:=OB
 inj:=fun a b h=>by
  injection h with h
  omega
 dct:=.dK
 rep:=fun _ v k=>v=nV k
 keep:=fun h _=>h
 kindL:=fun _ _ z=>nomatch z
 kindT:=fun _ _ z=>nomatch z
 new:=E4
 isD:=fun h=>.inl #[_,.inl h]
 len:=fun h q=>#[_,rfl,.inl #[_,h,q]]
 setd:=fun{H a ks k v Q} h r hz h1 h2=>by
  have ki:∀a b,OB a=OB b->a=b:=fun a b h=>by injection h with h;omega
  refine .inl #[_,OB k,h,r,by rw[kZ];exact hz,fun u hu=>?_,fun hu=>?_]
  ·by_cases hm:k∈ks
   ·rw[(iK ki k ks 1).1 hm] at hu;cases hu;have:=h1 hm;rw[jh] at this;exact this
   ·rw[(iK ki k ks 1).2 hm] at hu;cases hu
  ·by_cases hm:k∈ks
   ·rw[(iK ki k ks 1).1 hm] at hu;cases hu
   ·have:=h2 hm;rw[rk,jh 1] at this;exact this
 lst:=fun{H a ks Q} h q=>⟨a,rfl,.inl ⟨_,h,fun l hl=>by
  refine q l _ hl ?_;have:∀(ks:List Nat) (k:Nat),Paired (fun(v:V) (n:Nat)=>v=nV n) ((iV OB k ks).map fun kv=>kV kv.1) ks:=by
   intro ks
   induction ks with
   |nil=>intro _;exact .nil
   |cons c r ih=>intro k;exact .cons rfl (ih (k+1))
  exact this ks 1⟩⟩
def Sx:Sk `at' where
 ky:=List nB
 dec:=inferInstance
 f:=i5
 inj:=fun _ _=>k6
 dct:=.dT
 rep:=fun H v k=>∃b,v= .ref b/\H b=some (.tup (k.map nV))
 keep:=fun⟨b,e,h⟩ k=>#[b,e,k _ _ h]
 kindL:=fun _ _ z=>nomatch z
 kindT:=fun _ _ z=>nomatch z
 new:=yJ
 isD:=fun h=>.inr #[_,.inl h]
 len:=fun h q=>#[_,rfl,.inr #[_,h,q]]
 setd:=fun{H a ks k v Q} h r hz h1 h2=>by
  obtain⟨b,rfl,hb⟩:=r;refine .inr #[_,i5 k,b,h,rfl,by rw[rF];exact hb,by rw[kZ];exact hz,fun u hu=>?_,fun hu=>?_]
  ·by_cases hm:k∈ks
   ·rw[(iK `eh' k ks 1).1 hm] at hu;cases hu;have:=h1 hm;rw[jh] at this;exact this
   ·rw[(iK `eh' k ks 1).2 hm] at hu;cases hu
  ·by_cases hm:k∈ks
   ·rw[(iK `eh' k ks 1).1 hm] at hu;cases hu
   ·have:=h2 hm;rw[rk,jh 1] at this;exact this
 lst:=fun{H a ks Q} h q=>⟨a,rfl,.inr ⟨_,h,fun l bs hl hp=>by
  refine q l _ hl ?_;have:∀(ks:List (List Nat)) (k:Nat) (bs:List ak),Paired `bb' bs (iV i5 k ks)->Paired (fun(v:V) (n:List Nat)=>∃b,v= .ref b/\H b=some (.tup (n.map nV))) (bs.map V.ref) ks:=by
   intro ks
   induction ks with
   |nil=>
    intro _ bs h;cases h;exact .nil
   |cons c r ih=>
    intro k bs h;cases h with
    |cons h1 h2=>exact .cons #[_,rfl,by rw[<-rF];exact h1] (ih (k+1) _ h2)
  exact this ks 1 bs hp⟩⟩
section
variable {κ:Type} [BEq κ] [LawfulBEq κ]
def MvL (M:Sk κ) (H:Hp) (l:ak) (ms:List `ax'):Prop:=∃as:List ak,H l=some `aq'/\Paired `e9' as ms
def Dn (M:Sk κ) (mv:Nat->κ->List `ax') (Ok:Nat->κ->Prop) (C:Hp->Prop):Sp:=fun vs H Q _=>∃(i:Nat) (v:V) (s:κ),vs=[nV i,v]/\M.rep H v s/\Ok i s/\C H/\∀(H':Hp) (l:ak),aM H H'->H l=Option.none->MvL M H' l (mv i s)->Q `cp' H'
def fX (mv:Nat->κ->List `ax') (L:Nat) (s:κ):Nat->List κ
 |0=>[s]
 |i+1=>(dm (mv i) L `f6').1
def kF (mv:Nat->κ->List `ax') (L:Nat) (s:κ) (n:Nat):List `Id:=(List.range n).map fun i=>(dm (mv i) L `f6').2
def Fo (mv:Nat->κ->List `ax') (L:Nat) (s:κ):∀n i,kY mv L n i `f6'=((range' i n).map fun i=>(dm (mv i) L `f6').2,fX mv L s (i+n))
 |0,i=>rfl
 |n+1,i=>by
  have ih:=Fo mv L s n (i+1);have e:kY mv L (n+1) i `f6'=((dm (mv i) L `f6').2::(kY mv L n (i+1) (fX mv L s (i+1))).1,(kY mv L n (i+1) (fX mv L s (i+1))).2):=rfl;rw[e,ih,jE,show i+1+n=i+(n+1) by omega];rfl
def xZ (a:ak) (H:Hp):Hp:=fun b=>if b=a then Option.none else H b
def i6 {a b:ak} {H:Hp} (h:b≠a):xZ a H b=H b:=au h
def mP {a b:ak} {H:Hp} {o:HO} (h:xZ a H b=some o):b≠a/\H b=some o:=by
 unfold xZ at h;by_cases e:b=a
 ·rw[aD e] at h;cases h
 ·rw[au e] at h;exact#[e,h]
def J8 {a:ak} {H:Hp} {o:HO}:xZ a `jb'=xZ a H:=by
 funext b
 unfold xZ;by_cases e:b=a
 ·rw[aD e,aD e]
 ·rw[au e,au e,aZ e]
def Oj {a:ak} {H H':Hp} (s:oU a H H'):aM (xZ a H) (xZ a H'):=fun b o e=>by
 obtain⟨h1,h2⟩:=mP e;rw[i6 h1];exact s b o h2 h1
def ul.same {H H':Hp} {a:ak} {cs:List `at'} (t:ul H a cs) (s:aM H H'):ul H' a cs:=by
 obtain⟨as,h,p⟩:=t;refine#[as,s _ _ h,?_];clear h
 induction p with
 |nil=>exact .nil
 |cons h _ ih=>exact .cons (s _ _ h) ih
def Rr (P:bN) (w:cV) (K:ai) (mg:Str->Option aA) (base:cZ) (km:Nat) (M:Sk κ) (mv:Nat->κ->List `ax') (Ok:Nat->κ->Prop) (C:Hp->Prop):Sp:=fun vs H Q _=>
 ∃(n L:Nat) (v:V) (s:κ) (fm:ak) (fo:Obj) (u:HO) (yB fd:aH) (pm:List Str),vs=[nV n,nV L,v,.ref fm]/\M.rep H v s/\H fm=some `hL'/\fo.data= .func yB/\bT P w K mg base dj km fm fd pm (Dn M mv Ok C)/\fV K fd pm []/\
  C H/\n<=20/\L<=20/\(∀i,i<n->∀t∈fX mv L s i,Ok i t/\oY L `hB')/\(∀i,i<=n->(fX mv L s i).length<sizeLine)/\
  ∀(H':Hp) (r a b:ak) (as:List ak) (xs:List V),aM H H'->H r=Option.none->H' r=some (.tup [.ref a,.ref b])->H' a=some `aq'->Paired (fun c st=>ul H' c st) as (kF mv L s n)->H' b=some `bh'->Paired (M.rep H') xs `l9'->Q `bd' H'
end
section
structure Txt2 (K:ai) (mg:Str->Option aA):Prop extends Txt1 K mg where
 nRange:mg "range"=none
 nList:mg "list"=none
section
variable {κ:Type} [BEq κ] [LawfulBEq κ]
abbrev R4:List Str:=["length","letters","start","moves","states","steps","place","found","step","state","children","x","behind"]
def mV:bY R4 `c8' (aw C1):=`dl
def Vu {H:Hp} {a:ak} {L:Nat} {Q:VK} (ha:H a=some `cR') (hL:L<=sizeLine) (h:∀p,H p=Option.none->Q `dR' (bO H p `co')):Z2 `bu' (nV L) H Q:=by
 have h63:(sizeLine:Int)<2^63:=by decide
 refine#[a,L,_,rfl,rfl,ha,by omega,by omega,by rw[cz];omega,fun p hp=>?_];have e:(replicate (L:Int).toNat [V.int 0]).flatten=(replicate L 0).map nV:=by
  rw[bL];clear h hL
  induction L with
  |zero=>rfl
  |succ L ih=>
   rw[dD,ko,ih,dD,bw];rfl
 rw[e];exact h p hp
def ud {H H':Hp} (s:aM H H'):∀b ys,H b=some `eb'->H' b=some `eb':=fun b ys e=>s b _ e
def uW {M:Sk κ} {H H':Hp} (t:∀b ys,H b=some `eb'->H' b=some `eb'):∀{xs:List V} {ks:List κ},Paired (M.rep H) xs ks->Paired (M.rep H') xs ks
 |_,_,.nil=>.nil
 |_,_,.cons h r=>.cons (M.keep h t) (uW t r)
def gH {α β:Type} {R:α->β->Prop} {a:α} {b:β} (h:R a b):∀{l:List α} {m:List β},Paired R l m->Paired R (l++[a]) (m++[b])
 |_,_,.nil=>.cons h .nil
 |_,_,.cons x t=>.cons x (gH h t)
def b4 {α β:Type} {R S:α->β->Prop} (f:∀a b,R a b->S a b):∀{l:List α} {m:List β},Paired R l m->Paired S l m
 |_,_,.nil=>.nil
 |_,_,.cons x t=>.cons (f _ _ x) (b4 f t)
def S1 (mv:κ->List `ax') (L:Nat) (sts:List κ) (i:Nat):((sts.take i).foldl `gA' ([],[])).1.length<=(dm mv L sts).1.length:=by
 unfold dm
 conv=>rhs;rw[<-gI i sts,qj]
 obtain⟨⟨l,e⟩,_⟩:=vC mv L (sts.drop i) ((sts.take i).foldl `gA' ([],[]));rw[e,aE];omega
def Se (ms:List `ax') (z:List κ×List Nat) (i:Nat):((ms.take i).foldl gy z).1.length<=(lB ms z).1.length:=by
 unfold lB
 conv=>rhs;rw[<-gI i ms,qj]
 obtain⟨l,e⟩:=tJ (ms.drop i) ((ms.take i).foldl gy z);have e:((ms.drop i).foldl gy ((ms.take i).foldl gy z)).1=_:=e;rw[e,aE];omega
def LP (ms:List `ax') (z:List κ×List Nat):(ms.foldl gy z).2.length=z.2.length:=A9 ms z
def Qe {f:ak} {fd:aH} {km:Nat} {M:Sk κ} {mv:Nat->κ->List `ax'} {Ok:Nat->κ->Prop} {C:Hp->Prop} (F:nv K "reach" "reach" C1 f fd) (T:Txt2 K mg) (hC:∀H H':Hp,aM H H'->C H->C H'):
 bT P w K mg base dj (km+1) f fd `c8' (Rr P w K mg base km M mv Ok C):=by
 refine F.ok mV `ST `LE
 ·obtain⟨n,L,v,s,fm,fo,u,yB,fd,pm,rfl,_⟩:=h;rfl
 ·obtain⟨n,L,v,s0,fm,fo,u,yB,MH,pm,rfl,wu,yG,Ut,hF,hB,KR,hn,hL,hok,hz,k⟩:=h;obtain⟨td,gu⟩:=T.dead;have hu:=ux hr;refine⟨_,am (`n9' mV.nd rfl `Cl (db `aC'))
   (am (`n7' mV.nd rfl `Cl `l6')
   (am (mf cD rfl (jc rfl T.nRange `aM') (cp (i:=6) mV.nd rfl `Cl)
    (am (bP (i:=7) mV.nd rfl `Cl M.new)
    (am (bP (i:=8) mV.nd rfl `Cl `l6')
    (am (mf cD rfl `hS' (cp (i:=9) mV.nd rfl `Cl)
     (am (bP (i:=10) mV.nd rfl `Cl (cJ Vg (db (aa (`nX' `IO gu ⟨td,rfl⟩) aB)) (pv 1)))
     (am (mf cD rfl (iF (Oe (i:=3) hr b9 (aa (pv 6) `kT'))) (uE rfl (jm (cp (i:=11) mV.nd rfl `Cl) (jm (cp (i:=12) mV.nd rfl `Cl) r6)))
      (aG (U2 (AS hu (pv 7) (pv 12) (cJ gx (dq xo `IO T.nLen cY `gz') aC) `lE') (VG (pv 10) (pv 11) Oz))))
     (aG (gZ (nZ bu bX bW gN (pv 8) (aa (pv 10) aB)))))))
    (am (gZ (nZ bu bX bW gN (pv 5) (aa (pv 8) aB)))
    (aG (`n9' mV.nd rfl `Cl (mw (si rfl) `IO T.nList boot_list `gz'))))))))
   (aG (aY (eP (aa (pv 5) `cO')))))),?_⟩
  refine⟨_,rfl,by show 1<=sizeLine;decide,fun tA0 ht0=>?_⟩;refine⟨by show 0<=sizeLine;decide,fun sA hs0=>?_⟩;have s1:aM H (bO H tA0 (.lst [v])):=aM.new ht0;have hsH:=s1.free hs0;have hts:=a9 (aq (H:=H)) hs0;have s2:aM H (bO (bO H tA0 (.lst [v])) sA `bo'):=aM.put s1 hsH;refine⟨_,rfl,_,rfl,by omega,(have:(20:Int)<2^62:=`KK;by omega),?_⟩;rw[bL];refine wP (n:=n) (fun i σ H'=>∃(o6 o7 o8 o9 o10 Tn Tz:Option V) (tA:ak) (as:List ak) (xs:List V),σ=[some (nV n),some (nV L),some v,some (.ref fm),some (.ref tA),some (.ref sA),o6,o7,o8,o9,o10,Tn,Tz]/\aM H H'/\
   H' sA=some `aq'/\Paired (fun b st=>ul (xZ sA H') b st) as (kF mv L s0 i)/\H' tA=some `bh'/\tA≠sA/\Paired (M.rep H') xs (fX mv L s0 i))
   #[none,none,none,none,none,none,none,tA0,[],[v],rfl,s2,aq,.nil,?_,hts,.cons (M.keep wu (ud s2)) .nil] ?_ ?_
  ·rw[aZ hts];exact aq
  ·
   rintro i σ H' hi ⟨o6,o7,o8,o9,o10,Tn,Tz,tA,as,xs,rfl,sH,Ws,hsP,htA,lH,QV⟩;have uu:fX mv L s0 (i+1)=(dm (mv i) L (fX mv L s0 i)).1:=rfl;have Zc:=hok i hi;have hzi:=hz i `mt;have Uy:=hz (i+1) `mt;rw[uu] at Uy;have Zw:kF mv L s0 (i+1)=kF mv L s0 i++[(dm (mv i) L (fX mv L s0 i)).2]:=by
    unfold kF;rw[eB,bj];rfl
   rw[show(0:Int)+(i:Int)=(i:Int) by omega];generalize hsts:fX mv L s0 i=sts at QV Zc hzi Uy Zw uu;intro dA Wn;refine#[by show 0<=sizeLine;decide,fun eA heA=>?_];have hed:=a9 (aq) heA;have sm1:aM H' (bO H' dA (M.dct [])):=aM.new Wn;have heH:=sm1.free heA;have sm2:aM H' (bO (bO H' dA (M.dct [])) eA `bo'):=aM.put sm1 heH;have aaN:eA≠sA:=fun z=>by rw[z,Ws] at heH;cases heH
   have abP:dA≠sA:=fun z=>by rw[z,Ws] at Wn;cases Wn
   refine⟨_,rfl,tA,rfl,⟨xs,SqL.of (sm2 _ _ htA)⟩,pI (K:=K) (fun j σ H3=>∃(p9 p10 Tp TD:Option V) (bs:List ak),σ=[some (nV n),some (nV L),some v,some (.ref fm),some (.ref tA),some (.ref sA),some (nV i),some (.ref dA),some (.ref eA),p9,p10,Tp,TD]/\aM H' H3/\
    H3 dA=some (M.dct (iV M.f 1 ((sts.take j).foldl `md' ([],[])).1))/\H3 eA=some `aL'/\Paired (fun b (ch:List Nat)=>H3 b=some (.lst (ch.map nV))/\b≠eA/\b≠sA) bs ((sts.take j).foldl `md' ([],[])).2)
    #[o9,o10,Tn,Tz,[],rfl,sm2,?_,aq,.nil] (fun j σ H3 _ ⟨_,_,_,_,_,_,s3,_⟩=>SqL.of (s3 _ _ htA)) ?_ ?_⟩
   ·rw[aZ hed];exact aq
   ·
    rintro j vs σ H3 hj ⟨p9,p10,Tp,TD,bs,rfl,s3,MI,he3,Eu⟩;obtain⟨t,ht,hrt⟩:=fE QV hj;have htm:t∈sts:=aQ ht;obtain⟨abj,abr⟩:=Zc t htm;have EA:=bG (S1 (mv i) L sts (j+1)) Uy;rw[tT _ _ ht] at EA⊢
    have Ti:((sts.take j).foldl `md' ([],[])).2.length<sizeLine:=by
     obtain⟨_,m,e,hm⟩:=vC (mv i) L (sts.take j) ([],[]);rw[e,aE,hm,be,ja];omega
    generalize (sts.take j).foldl `md' ([],[])=z at MI Eu EA Ti⊢
    have EA:=EA;refine#[by show 1<=sizeLine;decide,fun pA hpA=>`jt'];refine Vu aq (aU hL `KK) fun cA hcA=>?_;have s4:aM H3 (bO H3 pA `cR'):=aM.new hpA;have M0:=s4.free hcA;have s4:aM H3 (bO (bO H3 pA `cR') cA `co'):=aM.put s4 M0;have Tv:(bO (bO H3 pA `cR') cA `co') cA=some `co':=aq;generalize bO (bO H3 pA `cR') cA `co'=H4 at s4 Tv⊢
    have hdc:dA≠cA:=a9 MI M0;have hec:eA≠cA:=a9 he3 M0;have QN:sA≠cA:=a9 (s3 _ _ Ws) M0;have Xk:=s4 _ _ (s3 _ _ (sH _ _ yG));refine#[fm,fo,u,yB,rfl,Xk,Ut,_,rfl,_,rfl,Xk,MH,_,_,hF,hB,i,vs,t,rfl,M.keep hrt (ud (s3.trans s4)),abj,hC _ _ (sH.trans (s3.trans s4)) KR,fun H5 l s5 hl ⟨ls,QQ,WQ⟩=>?_];have hld:l≠dA:=fun z=>by rw[z,s4 _ _ MI] at hl;cases hl
    have hlc:l≠cA:=fun z=>by rw[z,Tv] at hl;cases hl
    refine⟨l,rfl,⟨_,SqL.of QQ⟩,pI (K:=K) (a:=l) (fun m σ H6=>∃(Tp TD:Option V),σ=`bx'/\
     (∀b o,H5 b=some o->b≠dA->b≠cA->H6 b=some o)/\H6 dA=some (M.dct (iV M.f 1 (((mv i t).take m).foldl gy (z.1,replicate L 0)).1))/\H6 cA=some (.lst ((((mv i t).take m).foldl gy (z.1,replicate L 0)).2.map nV)))
     #[Tp,TD,rfl,fun b o e _ _=>e,s5 _ _ (s4 _ _ MI),s5 _ _ Tv] (fun m σ H6 _ ⟨_,_,_,s6,_⟩=>SqL.of (s6 _ _ QQ hld hlc)) ?_ ?_⟩
    ·
     rintro m y σ H6 hm ⟨q11,q12,rfl,s6,Tj,WA⟩;obtain⟨la,Q5,rfl⟩:=wT hm;obtain⟨⟨x,b⟩,hxb,vb,Nn,hrb⟩:=fE WQ Q5;have hxm:=aQ hxb;have hxL:x<L:=abr.2 x (aV.mpr #[_,hxm,rfl]);have lad:la≠dA:=fun z=>by
      rw[z,s5 _ _ (s4 _ _ MI)] at Nn;exact M.kindT _ _ (aP Nn)
     have lac:la≠cA:=fun z=>by rw[z,s5 _ _ Tv] at Nn;cases Nn
     have Te:=bG (Se `hB' _ m) EA;have WU:(((mv i t).take m).foldl gy (z.1,replicate L 0)).2.length=L:=by rw[LP,bo]
     rw[tT _ _ hxb];generalize ((mv i t).take m).foldl gy (z.1,replicate L 0)=z6 at Tj WA Te WU⊢
     have aby:=M.keep hrb fun c ys e=>s6 c _ e (fun z=>by rw[z,s5 _ _ (s4 _ _ MI)] at e;exact M.kindT _ _ (aP e)) fun z=>by rw[z,s5 _ _ Tv] at e;cases e
     refine#[la,_,rfl,iX.of (s6 _ _ Nn lad lac),rfl,_,_,rfl,_,_,rfl,rfl,?_];refine#[_,rfl,dA,rfl,M.isD Tj,_,rfl,_,rfl,?_];dsimp only[AQ];refine M.len Tj ?_;refine#[_,_,rfl,rfl,?_];show DSd H6 dA vb (V.int (((iV M.f 1 z6.1).length:Nat)+1:Int)) _;rw[show V.int (((iV M.f 1 z6.1).length:Nat)+1:Int)=nV (z6.1.length+1) by rw[kZ];rfl];have oH:∀(w:Nat) (H7:Hp),(∀b o,H5 b=some o->b≠dA->b≠cA->H7 b=some o)->H7 dA=some (M.dct (iV M.f 1 (RR.put b z6.1)))->H7 cA=some (.lst (z6.2.map nV))->w=(RR.put b z6.1).idxOf b+1->
      ∃p xs k j,V.ref cA= .ref p/\nV x= .int k/\H7 p=some `bh'/\O8 xs.length k=some j/\(fun σ H6=>∃(Tp TD:Option V),σ=`bx'/\
       (∀b o,H5 b=some o->b≠dA->b≠cA->H6 b=some o)/\H6 dA=some (M.dct (iV M.f 1 (gy z6 (x,b)).1))/\H6 cA=some (.lst ((gy z6 (x,b)).2.map nV)))
       [some (nV n),some (nV L),some v,some (.ref fm),some (.ref tA),some (.ref sA),some (nV i),some (.ref dA),some (.ref eA),some vs,some (.ref cA),some (nV x),some vb] (bO H7 p (.lst (xs.set j (nV w)))):=fun w H7 s7 h1 h2 h3=>by
      refine#[cA,_,_,x,rfl,rfl,h2,?_,_,_,rfl,fun b o e NM NF=>?_,?_,?_]
      ·unfold O8;rw[ae,WU,aD `mt,aD `mt,bL]
      ·rw[aZ NF];exact s7 b o e NM NF
      ·rw[aZ hdc];exact h1
      ·rw[aq,h3];show _=some (HO.lst ((z6.2.set x _).map nV));rw[List.map_set]
     refine M.setd Tj aby Te (fun uB=>?_) fun uB=>?_
     ·exact#[_,rfl,_,rfl,oH _ _ s6 (by rw[jZ uB];exact Tj) WA (by rw[jZ uB])]
     ·refine#[_,rfl,_,rfl,oH _ _ (fun b o e h1 h2=>?_) ?_ ?_ ?_]
      ·rw[aZ h1];exact s6 b o e h1 h2
      ·rw[aq,mS uB]
      ·rw[aZ hdc.symm];exact WA
      ·rw[mS uB,mD,au uB,kO];omega
    ·
     rintro σ H6 ⟨q11,q12,rfl,s6,Tj,WA⟩;have UY:(ls.map V.ref).length=(mv i t).length:=by rw[ae,bH WQ]
     rw[UY,eU] at Tj WA;have e6:=fun b o e hb=>s6 b o (s5 _ _ (s4 _ _ e)) hb (a9 e M0);have he6:=e6 _ _ he3 hed.symm;refine#[_,rfl,.inl #[rfl,_,SqL.of he6],_,rfl,eA,_,_,rfl,rfl,he6,?_,?_]
     ·rw[ae,bH Eu];exact Ti
     ·refine#[_,_,_,_,bs++[cA],rfl,fun b o e=>?_,?_,?_,?_]
      ·have Q9:b≠eA:=fun z=>by rw[z,heH] at e;cases e
       have hbd:b≠dA:=fun z=>by rw[z,Wn] at e;cases e
       rw[aZ Q9];exact e6 b o (s3 _ _ e) hbd
      ·rw[aZ hed];exact Tj
      ·rw[aq,bj];rfl
      ·refine gH #[?_,hec.symm,QN.symm] (b4 (fun b ch ⟨h1,h2,h3⟩=>#[?_,h2,h3]) Eu)
       ·rw[aZ hec.symm];exact WA
       ·rw[aZ h2];exact e6 b _ h1 fun z=>by
         rw[z,MI] at h1;exact M.kindL _ _ (aP h1)
   ·
    rintro σ H3 ⟨p9,p10,Tp,TD,bs,rfl,s3,MI,he3,Eu⟩;have hlx:=bH QV;rw[hlx,eU] at MI Eu;have MI:=MI;have Eu:=Eu;have Wk:=s3 _ _ Ws;refine#[_,rfl,.inl #[rfl,_,SqL.of Wk],_,rfl,sA,_,_,rfl,rfl,Wk,?_,?_]
    ·rw[ae,bH hsP];unfold kF;rw[ae,bv];have:(20:Nat)<sizeLine:=by decide
     omega
    ·have hd4:`b9' dA=some (M.dct (iV M.f 1 (dm (mv i) L sts).1)):=by
      rw[aZ abP];exact MI
     refine#[_,rfl,M.lst hd4 fun tB ys Zs hys=>?_];have Rf:H3 tB=Option.none:=by
      have:tB≠sA:=fun z=>by rw[z,aq] at Zs;cases Zs
      rw[aZ this] at Zs;exact Zs
     have ZA:tB≠sA:=fun z=>by rw[z,Wk] at Rf;cases Rf
     have s4:aM (xZ sA H3) (xZ sA (bO `b9' tB `cC')):=fun b o e=>by
      obtain⟨h1,h2⟩:=mP e;rw[i6 h1,aZ (a9 h2 Rf),aZ h1];exact h2
     have tk:∀b zs,`b9' b=some (.tup zs)->(bO `b9' tB `cC') b=some (.tup zs):=fun b zs e=>by
      rw[aZ (a9 e Zs)];exact e
     refine#[_,_,_,_,_,_,_,tB,as++[eA],ys,rfl,fun b o e=>?_,?_,?_,aq,ZA,?_]
     ·have aba:b≠sA:=a9 e hsH;have h3:=s3 _ _ (sH _ _ e);rw[aZ (a9 h3 Rf),aZ aba];exact h3
     ·rw[aZ ZA.symm,aq,bj];rfl
     ·rw[Zw];refine gH ?_ (b4 (fun b st h=>(h.same (Oj (oU.of s3))).same s4) hsP);refine ul.same #[bs,?_,b4 (fun b ch ⟨h1,_,h3⟩=>?_) Eu] s4
      ·rw[i6 aaN];exact he3
      ·rw[i6 h3];exact h1
     ·rw[uu];exact uW tk hys
  ·
   rintro σ H' ⟨o6,o7,o8,o9,o10,Tn,Tz,tA,as,xs,rfl,sH,Ws,hsP,htA,lH,QV⟩;refine#[_,rfl,_,rfl,by show 2<=sizeLine;decide,fun r qe=>?_];have s3:aM H' (bO H' r (.tup [.ref sA,.ref tA])):=aM.new qe;exact k _ r sA tA as xs (sH.trans s3) (sH.free qe) aq (s3 _ _ Ws) (b4 (fun b st h=>(h.same fun c o e=>(mP e).2).same s3) hsP) (s3 _ _ htA) (uW (ud s3) QV)
end
end
section
variable {κ:Type} [BEq κ] [LawfulBEq κ] {α:Type}
abbrev TN (J:It) (g:TG) (tt:TT) (te:TE) (vs:List Nat) (σ:L2.St) (H1:Hp) (D:ak) (Qd:Hp->Prop):Prop:=∃W:Nat->Nat->Hp->Prop,(∃m,W 0 m (bO H1 D `bo'))/\∀i m H,W i m H->
 (J.stop i H/\Qd H)\/(J.go i H/\∃Nx:Hp->Prop,(∀H',Nx H'->∃m',m'<m/\W (i+1) m' H')/\∀x H',J.yld i H x H'->g x `dJ' H' fun σ2 H2=>ie σ2 vs=ie σ vs/\tt σ2 H2 fun b H3=>
  if b=true then te σ2 H3 fun y H4=>∃cR,H4 D=some `cM'/\cR.length<sizeLine/\Nx `bj' else Nx H3)
def QD (R:Hp->V->α->Prop) (p:α->Bool) (g:TG) (tt:TT) (te:TE) (vs:List Nat) (σ:L2.St) (H1:Hp) (D:ak) (x:α) (v:V):Prop:=
 ∀(H2:Hp) (NX:Hp->Prop),aM H1 H2->(p x=false->∀H4,aM H2 H4->NX H4)->(p x=true->∀H5 y,aM H2 H5->R H5 y x->∃cR,H5 D=some `cM'/\cR.length<sizeLine/\NX `au')->
  g v `dJ' H2 fun σ2 H3=>ie σ2 vs=ie σ vs/\tt σ2 H3 fun b H4=>if b=true then te σ2 H4 fun y H5=>∃cR,H5 D=some `cM'/\cR.length<sizeLine/\NX `au' else NX H4
def HL (R:Hp->V->α->Prop) (p:α->Bool) (g:TG) (tt:TT) (te:TE) (vs:List Nat) (σ:L2.St) (H1:Hp) (D:ak) (x:α) (v:V):Prop:=
 ∀(H2:Hp) (NX:Hp->Prop),aM H1 H2->(∃cR,H2 D=some `cM')->(p x=false->∀H4,aM H2 H4->NX H4)->(p x=true->∀H5 y,aM H2 H5->R H5 y x->∃cR,H5 D=some `cM'/\cR.length<sizeLine/\NX `au')->
  g v `dJ' H2 fun σ2 H3=>ie σ2 vs=ie σ vs/\tt σ2 H3 fun b H4=>if b=true then te σ2 H4 fun y H5=>∃cR,H5 D=some `cM'/\cR.length<sizeLine/\NX `au' else NX H4
def uy (R:Hp->V->α->Prop):Prop:=∀(H H':Hp) (v:V) (x:α),R H v x->(∀b ys,H b=some `eb'->H' b=some `eb')->R H' v x
def nE (R:Hp->V->α->Prop) (p:α->Bool) (l:List α) (H1:Hp) (D:ak) (i:Nat) (H:Hp):Prop:=aM H1 H/\∃ys,H D=some `cC'/\Paired (R H) ys ((l.take i).filter p)
def uU (D:ak) (R:Hp->V->α->Prop):Prop:=∀(H H':Hp) (v:V) (x:α) (ys:List V),R H v x->H D=some `cC'->(∀b o,H b=some o->b≠D->H' b=some o)->R H' v x
def uy.d {D:ak} {R:Hp->V->α->Prop} (k:uy R):uU D R:=fun H H' v x ys r hD h=>k H H' v x r fun b zs e=>h b _ e fun z=>by rw[z,hD] at e;cases e
def gt {D:ak} {R:Hp->V->α->Prop} (k:uU D R) {H H':Hp} {ys:List V} (hD:H D=some `cC') (t:∀b o,H b=some o->b≠D->H' b=some o):∀{xs:List V} {ks:List α},Paired (R H) xs ks->Paired (R H') xs ks
 |_,_,.nil=>.nil
 |_,_,.cons h r=>.cons (k _ _ _ _ _ h hD t) (gt k hD t r)
def qv {p:α->Bool} {l:List α} {i:Nat} {x:α} (h:l[i]? =some x):(l.take (i+1)).filter p=(l.take i).filter p++(if p x=true then[x] else[]):=by
 rw[kN,h,List.filter_append]
 congr 1
 show[x].filter p=_;rw[le,List.filter_nil]
def nE.step {R:Hp->V->α->Prop} {p:α->Bool} {l:List α} {H1 H2:Hp} {D:ak} {i:Nat} {x:α} {v:V} {g:TG} {tt:TT} {te:TE} {vs:List Nat} {σ:L2.St} (hR:uU D R) (hD:H1 D=Option.none) (hz:l.length<sizeLine) (hx:l[i]? =some x) (I:nE R p l H1 D i H2)
 (t:HL R p g tt te vs σ H1 D x v):
 g v `dJ' H2 fun σ2 H3=>ie σ2 vs=ie σ vs/\tt σ2 H3 fun b H4=>if b=true then te σ2 H4 fun y H5=>∃cR,H5 D=some `cM'/\cR.length<sizeLine/\nE R p l H1 D (i+1) `au' else nE R p l H1 D (i+1) H4:=by
 obtain⟨s,ys,yd,hp⟩:=I;refine t H2 (nE R p l H1 D (i+1)) s #[ys,yd] (fun e H4 s4=>`mH') fun e H5 y s5 r=>`hJ'
 ·show 186
 ·show 229
 ·rw[aZ (a9 q hD)];exact s5 _ _ (s _ _ q)
 ·have tk:∀b o,H5 b=some o->b≠D->(bO H5 D (.lst (ys++[y]))) b=some o:=fun b o q hb=>by
   rw[aZ hb];exact q
  show 142
def qW {R:Hp->V->α->Prop} {p:α->Bool} {l:List α} {H1:Hp} {D:ak} (hD:H1 D=Option.none):nE R p l H1 D 0 (bO H1 D `bo'):=#[aM.new hD,[],aq,.nil]
def tU {R:Hp->V->α->Prop} {p:α->Bool} {l:List α} {H1 H:Hp} {D:ak} (I:nE R p l H1 D l.length H):aM H1 H/\∃ys,H D=some `cC'/\Paired (R H) ys `nv':=by
 obtain⟨s,ys,h,q⟩:=I;rw[eU] at q;exact#[s,ys,h,q]
def U7 {R:Hp->V->Nat->Prop} {p:Nat->Bool} {lo n:Nat} {li:Int} {ni:Nat} {H1:Hp} {D:ak} {g:TG} {tt:TT} {te:TE} {vs:List Nat} {σ:L2.St} {Qd:Hp->Prop} (hR:uU D R) (hD:H1 D=Option.none) (hz:n<sizeLine) (hli:li=(lo:Int)) (Tw:ni=n)
 (t:∀x,lo<=x->x<lo+n->HL R p g tt te vs σ H1 D x (nV x)) (hd:∀(H:Hp) (ys:List V),aM H1 H->H D=some `cC'->Paired (R H) ys ((range' lo n).filter p)->Qd H):TN (L6 li ni) g tt te vs σ H1 D Qd:=by
 subst hli Tw;have hl:(range' lo ni).length=ni:=jR;refine P5 (nE R p (range' lo ni) H1 D) (qW hD) (fun i H hi I=>?_) fun H I=>?_
 ·rw[show(lo:Int)+(i:Int)=((lo+i:Nat):Int) by omega];refine nE.step hR hD (by rw[hl];exact hz) (x:=lo+i) ?_ I (t (lo+i) `mt `mt);rw[List.getElem?_range' hi]
  congr 1
  omega
 ·rw[<-hl] at I;rw[hl] at I;obtain⟨s,ys,h,q⟩:=tU (l:=range' lo ni) (by rw[hl];exact I);exact hd H ys s h q
def O2 {R:Hp->V->Nat->Prop} {p:Nat->Bool} {lo n:Nat} {li:Int} {ni:Nat} {H1:Hp} {D:ak} {g:TG} {tt:TT} {te:TE} {vs:List Nat} {σ:L2.St} {Qd:Hp->Prop} (hR:uy R) (hD:H1 D=Option.none) (hz:n<sizeLine) (hli:li=(lo:Int)) (Tw:ni=n)
 (t:∀x,lo<=x->x<lo+n->QD R p g tt te vs σ H1 D x (nV x)) (hd:∀(H:Hp) (ys:List V),aM H1 H->H D=some `cC'->Paired (R H) ys ((range' lo n).filter p)->Qd H):TN (L6 li ni) g tt te vs σ H1 D Qd:=U7 hR.d hD hz hli Tw (fun x a b H2 NX s _ sk tk=>t x a b H2 NX s sk tk) hd
def acf {K:ai} {R:Hp->V->α->Prop} {p:α->Bool} {l:List α} {f:α->V} {a:ak} {H1:Hp} {D:ak} {g:TG} {tt:TT} {te:TE} {vs:List Nat} {σ:L2.St} {Qd:Hp->Prop} (hR:uU D R) (ha:H1 a=some (.lst (l.map f))) (hD:H1 D=Option.none) (hz:l.length<sizeLine)
 (t:∀x∈l,HL R p g tt te vs σ H1 D x (f x)) (hd:∀(H:Hp) (ys:List V),aM H1 H->H D=some `cC'->Paired (R H) ys `nv'->Qd H):TN (QT K a) g tt te vs σ H1 D Qd:=by
 refine Kp (xs:=l.map f) (nE R p l H1 D) (qW hD) (fun i H hi I=>SqL.of `nf') (fun i v H hi I=>?_) fun H I=>?_
 ·show 64;exact nE.step hR hD hz hx I (t x (aQ hx))
 ·rw[ae] at I;show 48
def O9 {K:ai} {R:Hp->V->α->Prop} {p:α->Bool} {l:List α} {f:α->V} {a:ak} {H1:Hp} {D:ak} {g:TG} {tt:TT} {te:TE} {vs:List Nat} {σ:L2.St} {Qd:Hp->Prop} (hR:uy R) (ha:H1 a=some (.lst (l.map f))) (hD:H1 D=Option.none) (hz:l.length<sizeLine)
 (t:∀x∈l,QD R p g tt te vs σ H1 D x (f x)) (hd:∀(H:Hp) (ys:List V),aM H1 H->H D=some `cC'->Paired (R H) ys `nv'->Qd H):TN (QT K a) g tt te vs σ H1 D Qd:=acf hR.d ha hD hz (fun x a H2 NX s _ sk tk=>t x a H2 NX s sk tk) hd
def RN (_:Hp) (v:V) (x:Nat):Prop:=v=nV x
def ww:uy RN:=fun _ _ _ _ h _=>h
def kU {H:Hp}:∀{ys:List V} {l:List Nat},Paired (RN H) ys l->ys=l.map nV
 |_,_,.nil=>rfl
 |_,_,.cons h t=>by rw[bw,<-kU t,h]
def RM (M:Sk κ) (f:α->Nat×κ) (H:Hp) (v:V) (x:α):Prop:=∃b u,v= .ref b/\H b=some (.tup [nV (f x).1,u])/\M.rep H u (f x).2
def j9 {M:Sk κ} {f:α->Nat×κ}:uy (RM M f):=fun _ _ _ _ ⟨b,u,e,h,r⟩ k=>#[b,u,e,k _ _ h,M.keep r k]
def BW {M:Sk κ} {f:α->Nat×κ} {H:Hp}:∀{ys:List V} {l:List α},Paired (RM M f H) ys l->∃as:List ak,ys=as.map V.ref/\Paired `e9' as (l.map f)
 |_,_,.nil=>#[[],rfl,.nil]
 |_,_,.cons ⟨b,u,e,h,r⟩ t=>by
  obtain⟨as,e2,q⟩:=BW t;exact#[b::as,by rw[bw,<-e2,e],.cons #[u,h,r] q]
def nb {M:Sk κ} {f:α->Nat×κ} {H:Hp} {D:ak} {ys:List V} {l:List α} {ms:List `ax'} (h:H D=some `cC') (p:Paired (RM M f H) ys l) (e:l.map f=ms):MvL M H D ms:=by
 obtain⟨as,rfl,q⟩:=BW p;exact#[as,h,by rw[<-e];exact q]
end
structure ox (K:ai) (x qual:Str) (st:du) (f:ak) (fd:aH) (c T:ak):Prop where
 ex:∃(oc:aA) (od:Option ak) (kV doc pm:aA) (an:Option ak) (ct:aA) (osl:Array (Option aA)),
  fd=PySem.W.fnOf x qual (ue st) (oZ st) `l3' .none kV doc pm an (.ref c) ct/\K.lookup f=some #[oc,od,.func fd,osl]/\PySem.W.codeIn K (.ref c) qual=true
 kp:keepIn K `bA'=true
 ck:Kb K c T
def ox.ok {x qual:Str} {st:du} {f:ak} {fd:aH} {c T:ak} {N ps:List Str} {k:Nat} {sp:Sp} (F:ox K x qual st f fd c T) (S:bY N ps `l3') (len:∀vs H Q E,sp vs H Q E->vs.length=ps.length)
 (u9:∀(A:dY) (outer:List Env) (s:aS) (H:Hp) (vs:List V) (Q:VK) (E:XK),Room k (A.deeper (envOfC qual `l3' s.heap.objs.size f (.ref c)))->sp vs H Q E->
  ∃t,Hl (Gv dj P w K mg base N qual `l3' f (.ref c) A outer s H E).nox (oZ st) t/\t {nx:=fun _ H'=>Q .non H',rt:=Q} `ii' H):bT P w K mg base dj (k+1) f fd ps sp:=by
 show 234;show 230;obtain⟨t,h,q⟩:=u9 A outer s H vs Q E hr BE;exact#[t,h.nox,q]
def ox.binds {x qual:Str} {st:du} {f:ak} {fd:aH} {c T:ak} {ps:List Str} (F:ox K x qual st f fd c T)
 (h:∀(kV doc pm:aA) (an:Option ak) (cdv ct:aA) (us:List aA),us.length=ps.length->bindArgs `eI' `hZ'=pure `fc'):fV K fd ps []:=by
 show 234;exact .all (h kV doc pm an (.ref c) ct)
def rJ:Nat:=8388608
def oy {n:Nat} (h:n<=1000):n<rJ:=bG h `KK
def Mr:rJ<=sizeLine:=by decide
def B6 (K:ai) (H:Hp) (f:ak):Prop:=(∃fo u yB,H f=some `hL'/\fo.data= .func yB)\/keepIn K `bA'=true
def KG (n L:Nat) (lg:dh->Bool) (G:List `Id) (m:Nat):Prop:=iG L G/\G.length=n/\m<cj G/\∀r:dh,r.length=n->cx G m r=lg r
abbrev rs:=Hp->ak->Nat->Nat->Nat->List `Id->Nat->Prop
section
variable {κ:Type} [BEq κ] [LawfulBEq κ]
def Jv (M:Sk κ) (en:κ->Bool) (OkE:κ->Prop) (C:Hp->Prop):Sp:=fun vs H Q _=>∃(v:V) (s:κ),vs=[v]/\M.rep H v s/\OkE s/\C H/\∀H',aM H H'->Q (.bl (en s)) H'
def qm (KA:rs) (P:bN) (w:cV) (K:ai) (mg:Str->Option aA) (M:Sk κ) (base:cZ):Sp:=fun vs H Q _=>
 ∃(mv:Nat->κ->List (Nat×κ)) (en:κ->Bool) (Iv:Nat->κ->Prop) (C CE:Hp->Prop) (n L z:Nat) (v:V) (s:κ) (fm fe:ak) (fo:Obj) (u:HO) (yB fd sm:aH) (pm pe:List Str),
  vs=`b5'/\M.rep H v s/\(H fm=some `hL'/\fo.data= .func yB)/\B6 K H fe/\
  bT P w K mg base dj 3 fm fd pm `kR'/\fV K fd pm []/\bT P w K mg base dj 3 fe sm pe (Jv M en (Iv n) CE)/\fV K sm pe []/\
  (∀H H':Hp,aM H H'->C H->C H')/\(∀H H':Hp,aM H H'->CE H->CE H')/\C H/\CE H/\n<=20/\L<=20/\z<=3/\Iv 0 s/\(∀i t,i<n->Iv i t->oY L `hB'/\∀x t',(x,t')∈mv i t->Iv (i+1) t')/\
  (∀i (l:List κ),i<=n->l.Nodup->(∀t∈l,Iv i t)->l.length<rJ)/\
  ∀(H':Hp) (r:ak) (G:List (List (List Nat))) (m:Nat),aM H H'->H r=Option.none->KA H' r n L z G m->KG n L `fF' G m->Q `bd' H'
end
def ut (KA:rs) (T:ak) (defs:List `ap') (H:Hp) (Q:VK) (n L:Nat) (kd:aT):Prop:=
 ∀(H':Hp) (r:ak) (G:List (List (List Nat))) (m:Nat),cn T H H'->cw H' T defs->H r=Option.none->KA H' r n L 1 G m->KG n L `kY' G m->Q `bd' H'
structure Txt3 (K:ai) (mg:Str->Option aA):Prop extends Txt2 K mg where
 blt:Pn K mg
 nMin:mg "min"=none
 nMax:mg "max"=none
 nEnum:mg "enumerate"=none
structure B5 (KA:rs) (P:bN) (w:cV) (K:ai) (mg:Str->Option aA) (fB fA:ak) (fdB fdA:aH):Prop where
 gB:mg "build"=some (.ref fB)
 kB:keepIn K (.ref fB)=true
 bB:fV K fdB `aW' []
 okI:∀base,Mod K mg base->bT P w K mg base dj 5 fB fdB `aW' (qm KA P w K mg C9 base)
 okT:∀base,Mod K mg base->bT P w K mg base dj 5 fB fdB `aW' (qm KA P w K mg Sx base)
 gA:mg "always"=some (.ref fA)
 kA:keepIn K (.ref fA)=true
 bA:fV K fdA `bM' []
 okA:∀base,bT P w K mg base dj 3 fA fdA `bM' `iB'
def ge {P:bN} {w:cV} {K:ai} {mg:Str->Option aA} {base:cZ} {CX:yx} {k:Nat} {f:ak} {fd:aH} {ps:List Str} {sp sp':Sp} (F:bT P w K mg base CX k f fd ps sp) (h:∀vs H Q E,sp' vs H Q E->sp vs H Q E):bT P w K mg base CX k f fd ps sp':=
 #[fun vs H Q E q=>F.len vs H Q E (h _ _ _ _ q),fun A outer s H args us vs Q E hr e0 hb r q=>F.run A outer s H args us vs Q E hr e0 hb r (h _ _ _ _ q)]
def FnAt.same {H H':Hp} {f:ak} {fd:aH} (s:aM H H') (h:FnAt H f fd):FnAt H' f fd:=by
 obtain⟨⟨fo,u,h1,h2⟩,c,oc,vs,t,uc,h3,h4,h5,h6⟩:=h;exact#[#[fo,u,s _ _ h1,h2],c,oc,vs,t,uc,h3,s _ _ h4,h5,h6]
def Ko {κ:Type} [BEq κ] [LawfulBEq κ] {P:bN} {w:cV} {K:ai} {mg:Str->Option aA} {base:cZ} {k:Nat} {f:ak} {fd:aH} {ps:List Str} {M:Sk κ} {mv:Nat->κ->List `ax'} {Iv:Nat->κ->Prop} {C:Hp->Prop} {n:Nat} (F:bT P w K mg base dj k f fd ps (Dn M mv Iv C)):bT P w K mg base dj k f fd ps `kR':=
 ge F fun _ _ _ _ ⟨i,v,t,h1,h2,h3,h4⟩=>#[i,v,t,h1,h2,h3.2,h4]
def uv {κ:Type} [BEq κ] [LawfulBEq κ] {KA:rs} {P:bN} {w:cV} {K:ai} {mg:Str->Option aA} {M:Sk κ} {base:cZ} {fB fA:ak} {fdB fdA:aH} (B:B5 KA P w K mg fB fA fdB fdA) {vs:List V} {H:Hp} {Q:VK} {E:XK}
 (mv:Nat->κ->List `ax') (Iv:Nat->κ->Prop) (C:Hp->Prop) {n L:Nat} {v:V} {s:κ} {fm:ak} {fd:aH} {pm:List Str} (Q2:vs=`ls') (wu:M.rep H v s) (lI:FnAt H fm fd)
 (F:bT P w K mg base dj 3 fm fd pm `cA') (bF:fV K fd pm []) (hC:∀H H':Hp,aM H H'->C H->C H') (KR:C H) (hn:n<=20) (hL:L<=20) (h0:Iv 0 s)
 (hI:∀i t,i<n->Iv i t->oY L `hB'/\∀x t',(x,t')∈mv i t->Iv (i+1) t') (hz:∀i (l:List κ),i<=n->l.Nodup->(∀t∈l,Iv i t)->l.length<rJ)
 (k:∀(H':Hp) (r:ak) (G:List (List (List Nat))) (m:Nat),aM H H'->H r=Option.none->KA H' r n L 1 G m->KG n L (fun r=>gY mv `ca' 0 s r) G m->Q `bd' H'):qm KA P w K mg M base vs H Q E:=by
 obtain⟨⟨fo,u,h1,h2⟩,_⟩:=id lI;exact⟨mv,fun _=>true,Iv,_,fun _=>True,n,L,1,v,s,fm,fA,fo,u,fd,fd,fdA,pm,`bM',Q2,wu,⟨h1,h2⟩,.inr B.kA,F,bF,ge (B.okA base) (fun _ _ _ _ ⟨v,_,e,_,_,_,q⟩=>⟨v,e,q _ `M'⟩),B.bA,
  fun H H' s ⟨a,b⟩=>`ef',fun _ _ _ _=>trivial,#[lI,KR],trivial,hn,hL,by decide,h0,hI,hz,k⟩
def jW {κ:Type} [BEq κ] [LawfulBEq κ] {KA:rs} {P:bN} {w:cV} {K:ai} {mg:Str->Option aA} {M:Sk κ} {base:cZ} {fB fA:ak} {fdB fdA:aH} (B:B5 KA P w K mg fB fA fdB fdA) {vs:List V} {H:Hp} {Q:VK} {E:XK}
 (mv:Nat->κ->List `ax') (Iv:Nat->κ->Prop) (C:Hp->Prop) {n L:Nat} {v:V} {s:κ} {fm:ak} {fd:aH} {pm:List Str} (Q2:vs=`ls') (wu:M.rep H v s) (lI:FnAt H fm fd)
 (F:bT P w K mg base dj 3 fm fd pm `j1') (bF:fV K fd pm []) (hC:∀H H':Hp,aM H H'->C H->C H') (KR:C H) (hn:n<=20) (hL:L<=20) (h0:Iv 0 s)
 (hI:∀i t,i<n->Iv i t->oY L `hB'/\∀x t',(x,t')∈mv i t->Iv (i+1) t') (hz:∀i (l:List κ),i<=n->l.Nodup->(∀t∈l,Iv i t)->l.length<rJ)
 (k:∀(H':Hp) (r:ak) (G:List (List (List Nat))) (m:Nat),aM H H'->H r=Option.none->KA H' r n L 1 G m->KG n L (fun r=>gY mv `ca' 0 s r) G m->Q `bd' H'):qm KA P w K mg M base vs H Q E:=by
 exact uv B mv Iv C Q2 wu lI (Ko F) bF hC KR hn hL h0 hI hz k
def j2 {l:List Nat} {b:Nat} (nd:l.Nodup) (h:∀x∈l,x<b):l.length<=b:=by
 have:=vG (l:=l) (m:=List.range b) nd fun x hx=>aL.mpr (h x hx);rw[bv] at this;exact this
abbrev rQ:du:=my 50
def eG (s:du) (i:Nat):du:=(oZ s).getD i (.Pass `iW')
def lQ (s:du):Pos:=match s with
 | .FunctionDef _ _ _ _ _ _ _ _ _ p=>p
 |_=>`iW'
abbrev t0:List `ap':=[(lQ (eG rQ 1),"words.<locals>.moves")]
def ik {α:Type} (l:List α):l.filter `ca'=l:=List.filter_eq_self.mpr fun _ _=>rfl
def az {c:Bool} {p q:Prop} (h1:c=true->p) (h2:c=false->q):if c=true then p else q:=by
 cases c with
 |true=>exact h1 rfl
 |false=>exact h2 rfl
def fD {X:Cx} {σ:L2.St} {base:cZ} {scope:ju} {F:List Str} {fvs:List V} (g:FU X σ base) (is:List Nat) (h1:is.map (fun i=>X.N[i]?)=F.map some) (h2:is.map (fun i=>σ[i]?)=fvs.map fun v=>some `eG') (fY:fvs.length=F.length) (hF:∀x∈F,(x,NameKind.free)∈scope.names) (hF':∀y∈scope.names,y.2= .free->y.1∈F)
 (vc:∀x∈F,X.env.scope.names.lookup x=some .cell):PY base `kv' F fvs:=by
 refine g.held fY hF hF' vc fun j x v e1 e2=>?_;have a1:=dH (fun l=>l[j]?) h1;have a2:=dH (fun l=>l[j]?) h2;simp only[aR,e1,e2,lR] at a1 a2;cases e:is[j]? with
 |none=>rw[e] at a1;cases a1
 |some i=>
  rw[e] at a1 a2;exact#[i,aP a1,aP a2]
def cw.same {H H':Hp} {T:ak} {defs:List `ap'} (t:cw H T defs) (s:aM H H'):cw H' T defs:=by
 obtain⟨ps,h1,h2,h3⟩:=t;refine#[ps,s _ _ h1,h2,fun q hq cv e=>?_];obtain⟨c,rfl,oc,uc,vs,t,a,b⟩:=h3 q hq cv e;exact#[c,rfl,oc,uc,vs,t,s _ _ a,b]
def gn {H H':Hp} {T r:ak} {defs:List `ap'} (t:cw H T defs) (k:cn T H H') (h:H' r=Option.none) (t':cw H' T defs):H r=Option.none:=by
 cases e:H r with
 |none=>rfl
 |some o=>
  exfalso;by_cases hb:r=T
  ·obtain⟨ps,h1,_⟩:=t';rw[hb,h1] at h;cases h
  ·rw[k r o e hb] at h;cases h
section
variable {KA:rs} {fB fA:ak} {fdB fdA:aH}
def KJ (KA:rs) (T:ak):Sp:=fun vs H Q _=>∃n k:Nat,vs=`jE'/\cw H T t0/\`i6'/\(n<=20->k<=20->ut KA T t0 H Q n k `na')
def Jz:bY `gl' `db' (aw rQ):=`dl
def DL:eR ["place","state","k","x"] `cb' ["k"] (aw (eG rQ 1)):=`ld
def O3 {f c T:ak} {fd:aH} (F:ox K "words" "words" rQ f fd c T) (B:B5 KA P w K mg fB fA fdB fdA) (X3:Txt3 K mg):bT P w K mg base dj 6 f fd `db' (KJ KA T):=by
 refine F.ok Jz `ST `B'
 ·show 204;rfl
 ·obtain⟨n,k,rfl,hT,k8,iY⟩:=h;refine⟨_,am `aI'
   (am (jt (i:=2) (c:=c) (P:=T) (defs:=t0) (qual:="words.<locals>.moves") rfl F.ck X3.blt `IO `BT `BT rfl rfl rfl (show ∀y∈(aw (eG rQ 1)).names,y.2= .free->(aw rQ).names.lookup y.1=some .cell\/(aw rQ).names.lookup y.1=some .free by decide+kernel) Jz.nd rfl `Cl)
   (aG (aY (`nY' B.okI hr `aS' `IO B.gB B.kB B.bB b9
    (aa (pv 0) (aa (pv 1) (aa aC (aa aC (aa (pv 2) (aa (`n3' `IO B.gA rfl) aB)))))))))),?_⟩
  rw[show L2.start `gl' `jE'=[some (nV n),some (nV k),none] from rfl];refine#[_,rfl,n,20,rfl,rfl,_,rfl,az `bK' fun e=>#[_,rfl,k,20,rfl,rfl,_,rfl,az (fun e=>k8 (.inr (by have:=af e;omega))) fun e'=>?_]];have h1:n<=20:=by have:=aj e;omega
  have h2:k<=20:=by have:=aj e';omega
  refine `ak';refine jW B (JB k) (fun _ t=>t=0) `bw' (pm:=`cb') rfl rfl lI ?_ ?_ `aR' trivial h1 h2 rfl (fun i t _ e=>#[hX cM fun x hx=>aL.mp hx,fun x t' hm=>?_]) `bO' fun H' r G m s' qe hK hG=>?_
  ·obtain⟨doc,pm,cdv,ct,rfl⟩:=lW;refine g7 DL (fD (fvs:=[nV k]) g [1] rfl rfl rfl `BT `BT (show ∀x∈_,(aw rQ).names.lookup x=_ by decide+kernel)) `Ty `j' fun A outer s H vs Q E hr ⟨i,v,t,e,ht,_,_,q⟩=>?_;subst e;refine⟨_,aG (aY (`oc' rfl DL.nd (jc `IO X3.nRange `aC') (di `IO) (fun _ _ _ _ _=>cp (i:=3) DL.nd rfl `Cl) `aw'
    (fun _ _ _ _ _=>eP (aa (pv 3) `aN')))),?_⟩
   rw[show L2.start ["place","state","k","x"] ([nV i,v]++[nV k])=[some (nV i),some v,some (nV k),none] from rfl];refine#[_,rfl,_,rfl,by omega,(have:(20:Int)<2^62:=`KK;by omega),fun D hD=>O2 (R:=RM C9 fun x=>(x,t)) (p:=fun _=>true) (lo:=0) (n:=k) j9 hD (cO `mt) rfl (bL k) `bL' fun H' ys s' nh hp=>?_]
   ·refine#[rfl,_,rfl,_,rfl,by show 2<=sizeLine;decide,fun b hb=>tk rfl _ _ `fP' #[b,_,rfl,aq,C9.keep ht (ud (s2.trans `fP'))]]
   ·show 28;rw[ik,<-de];rfl
  ·show 1;exact .all fun us hl=>match us,hl with| [_,_],_=>rfl
  ·obtain⟨y,_,e⟩:=aV.mp hm;cases e
   assumption
  ·exact oy (aU (j2 (b:=1) nd fun x hx=>by rw[h x hx];decide) `KK)
  ·exact iY h1 h2 H' r G m `kp' `fW' `fq' hK #[hG.1,hG.2.1,hG.2.2.1,fun r hr=>by rw[hG.2.2.2 r hr];exact Qb hr]
end
def Ry:List Nat->List `at'
 | []=>[[]]
 |b::bs=>(List.range b).flatMap fun x=>(Ry bs).map (x:: ·)
def T7:List Nat->Nat
 | []=>1
 |b::bs=>b*T7 bs
def pJ:List Nat->List Nat->Prop
 | [],[]=>True
 |x::l,b::bs=>x<b/\pJ l bs
 |_,_=>False
def Fz:∀bs:List Nat,(Ry bs).length=T7 bs
 | []=>rfl
 |b::bs=>by
  have ih:=Fz bs;have e:∀l:List Nat,(l.flatMap fun x=>(Ry bs).map (x:: ·)).length=l.length*T7 bs:=by
   intro l
   induction l with
   |nil=>simp
   |cons a l ih2=>rw[mG,aE,ih2,ae,ih,aF,oJ,jh]
  show((List.range b).flatMap _).length=b*T7 bs;rw[e,bv]
def Gd:∀{l bs:List Nat},pJ l bs->l∈Ry bs
 | [],[],_=>cT.mpr rfl
 |x::l,b::bs,h=>jF.mpr #[x,aL.mpr h.1,aV.mpr #[l,Gd h.2,rfl]]
 | [],_::_,h=>h.elim
 |_::_,[],h=>h.elim
def re:∀{l bs:List Nat},pJ l bs->l.length=bs.length
 | [],[],_=>rfl
 |x::l,b::bs,h=>dH (· +1) (re h.2)
 | [],_::_,h=>h.elim
 |_::_,[],h=>h.elim
def Gp:∀{l bs:List Nat},pJ l bs->∀i,i<l.length->l.getD i 0<bs.getD i 0
 | [],[],_,i,h=>absurd h (ip _)
 |x::l,b::bs,h,0,_=>h.1
 |x::l,b::bs,h,i+1,hi=>Gp h.2 i (Nat.lt_of_succ_lt_succ hi)
 | [],_::_,h,_,_=>h.elim
 |_::_,[],h,_,_=>h.elim
def wC:∀{l bs:List Nat},pJ l bs->∀{i v:Nat},v<bs.getD i 0->pJ (l.set i v) bs
 | [],[],_,i,v,h=>absurd h (by rw[List.getD_nil];exact ip _)
 |x::l,b::bs,h,0,v,hv=>#[hv,h.2]
 |x::l,b::bs,h,i+1,v,hv=>#[h.1,wC h.2 (i:=i) hv]
 | [],_::_,h,_,_,_=>h.elim
 |_::_,[],h,_,_,_=>h.elim
def qt {ks:List `at'} {bs:List Nat} (nd:ks.Nodup) (h:∀l∈ks,pJ l bs):ks.length<=T7 bs:=by
 rw[<-Fz];exact vG nd fun l hl=>Gd (h l hl)
def Ca {v b:Nat} (h:v<b):∀n,pJ (replicate n v) (replicate n b)
 |0=>trivial
 |n+1=>#[h,Ca h n]
def yZ:∀c:List Nat,pJ c (c.map (· +1))
 | []=>trivial
 |x::c=>#[iJ x,yZ c]
def Kx:∀c:List Nat,T7 (c.map (· +1))<=2^Wqarao.sum c
 | []=>by decide
 |x::c=>by
  rw[RR.sum_cons,Nat.pow_add];exact hJ (Nat.lt_two_pow_self) (Kx c)
def Kz (b:Nat):∀n,T7 (replicate n b)=b^n
 |0=>rfl
 |n+1=>by
  rw[dD,oK,oM];show b*T7 _=_;rw[Kz b n]
def rg {n:Nat} (h:n<=1000): -(2^62)<=(n:Int)/\(n:Int)<2^62:=by
 have:(1000:Int)<2^62:=by decide
 omega
def vk {a b:Nat} (h:b<=a):V.int ((a:Int) - (b:Int))=nV (a - b):=by
 show _=V.int ((a - b:Nat):Int);rw[Int.ofNat_sub h]
def FnAt.but {H H':Hp} {T f:ak} {defs:List `ap'} {fd:aH} (h:FnAt H f fd) (t:cw H T defs) (k:cn T H H'):FnAt H' f fd:=by
 obtain⟨ps,hp,_⟩:=t;obtain⟨⟨fo,u,h1,h2⟩,c,oc,vs,tt,uc,h3,h4,h5,h6⟩:=h;exact#[#[fo,u,k _ _ h1 (eD h1 hp `XL),h2],c,oc,vs,tt,uc,h3,k _ _ h4 (eD h4 hp `XL),h5,h6]
def cn.trans {T:ak} {H H' Rn:Hp} (a:cn T H H') (b:cn T H' Rn):cn T H Rn:=fun c o e hc=>b c o (a c o e hc) hc
def cn.same {T:ak} {H H' Rn:Hp} (a:cn T H H') (b:aM H' Rn):cn T H Rn:=fun c o e hc=>b c o (a c o e hc)
def pi {κ:Type} [BEq κ] [LawfulBEq κ] {KA:rs} {P:bN} {w:cV} {K:ai} {mg:Str->Option aA} {M:Sk κ} {base:cZ} {vs:List V} {H:Hp} {Q:VK} {E:XK}
 (mv:Nat->κ->List `ax') (en:κ->Bool) (Iv:Nat->κ->Prop) (C CE:Hp->Prop) {n L z:Nat} {v:V} {s:κ} {fm fe:ak} {fd sm:aH} {pm pe:List Str} (Q2:vs=`b5') (wu:M.rep H v s) (lI:FnAt H fm fd) (rB:FnAt H fe sm)
 (F:bT P w K mg base dj 3 fm fd pm `j1') (bF:fV K fd pm []) (FE:bT P w K mg base dj 3 fe sm pe `iL') (bE:fV K sm pe []) (hC:∀H H':Hp,aM H H'->C H->C H') (Zb:∀H H':Hp,aM H H'->CE H->CE H') (KR:C H) (Na:CE H) (hn:n<=20) (hL:L<=20) (WC:z<=3) (h0:Iv 0 s)
 (hI:∀i t,i<n->Iv i t->oY L `hB'/\∀x t',(x,t')∈mv i t->Iv (i+1) t') (hz:∀i (l:List κ),i<=n->l.Nodup->(∀t∈l,Iv i t)->l.length<rJ)
 (k:∀(H':Hp) (r:ak) (G:List (List (List Nat))) (m:Nat),aM H H'->H r=Option.none->KA H' r n L z G m->KG n L `fF' G m->Q `bd' H'):qm KA P w K mg M base vs H Q E:=by
 obtain⟨⟨fo,u,h1,h2⟩,_⟩:=id lI;obtain⟨⟨fo',u',xT,Uv⟩,_⟩:=id rB;exact⟨mv,en,Iv,_,_,n,L,z,v,s,fm,fe,fo,u,fd,fd,sm,pm,pe,Q2,wu,⟨h1,h2⟩,.inl ⟨fo',u',sm,xT,Uv⟩,Ko F,bF,FE,bE,
  fun H H' s ⟨a,b⟩=>`ef',fun H H' s ⟨a,b⟩=>`mZ',#[lI,KR],#[rB,Na],hn,hL,WC,h0,hI,hz,k⟩
def nc (s:du):Pos×ju:=match s with
 | .Return (some (.Call _ args _ _)) _=>match args.getLast? with
  |some (.Lambda _ _ sc p)=>(p,sc)
  |_=>(`iW',aw s)
 |_=>(`iW',aw s)
def DS {a b:Nat}:decide `mq'=(a==b):=by
 rw[show(a==b)=decide (a=b) from rfl];show 190
def nodup_range' {a n:Nat}:(range' a n).Nodup:=List.nodup_range' ..
def yI {a n x:Nat} (h:x∈range' a n):a<=x/\x<a+n:=RR.mem_range'1.mp h
section
variable {KA:rs} {fB fA:ak} {fdB fdA:aH}
abbrev mQ:du:=my 51
abbrev ph:List `ap':=[(lQ (eG mQ 1),"choices.<locals>.moves")]
def Cy (KA:rs) (T:ak):Sp:=fun vs H Q _=>∃n k:Nat,vs=`jE'/\cw H T ph/\`i6'/\(n<=20->k<=20->ut KA T ph H Q k n `kL')
def CD:bY `gl' `db' (aw mQ):=`dl
def wJ:eR ["place","least","n","x"] `iE' ["n"] (aw (eG mQ 1)):=`ld
def HM {f c T:ak} {fd:aH} (F:ox K "choices" "choices" mQ f fd c T) (B:B5 KA P w K mg fB fA fdB fdA) (X3:Txt3 K mg):bT P w K mg base dj 6 f fd `db' (Cy KA T):=by
 refine F.ok CD `ST `B'
 ·show 204;rfl
 ·obtain⟨n,k,rfl,hT,k8,iY⟩:=h;refine⟨_,am `aI'
   (am (jt (i:=2) (c:=c) (P:=T) (defs:=ph) (qual:="choices.<locals>.moves") rfl F.ck X3.blt `IO `BT `BT rfl rfl rfl (show ∀y∈(aw (eG mQ 1)).names,y.2= .free->(aw mQ).names.lookup y.1=some .cell\/(aw mQ).names.lookup y.1=some .free by decide+kernel) CD.nd rfl `Cl)
   (aG (aY (`nY' B.okI hr `aS' `IO B.gB B.kB B.bB b9
    (aa (pv 1) (aa (pv 0) (aa aC (aa aC (aa (pv 2) (aa (`n3' `IO B.gA rfl) aB)))))))))),?_⟩
  show 40
  have h2:k<=20:=by have:=aj e2;omega
  refine `ak';refine jW B (BU n) (fun _ t=>t<=n) `bw' (pm:=`iE') rfl rfl lI ?_ ?_ `aR' trivial h2 h1 (aN n) `bm' `bO' fun H' r G m s' qe hK hG=>?_
  ·obtain⟨doc,pm,cdv,ct,rfl⟩:=lW;refine g7 wJ (`oj' g [0] rfl rfl rfl `BT `BT (show ∀x∈_,(aw mQ).names.lookup x=_ by decide+kernel)) `Ty `j' fun A outer s H vs Q E hr ⟨i,v,t,e,ht,uj,_,q⟩=>?_;subst e;have ht:v=nV t:=ht;subst ht;refine⟨_,aG (aY (`oc' rfl wJ.nd (xp `IO X3.nRange (aa (pv 1) `aC')) (di `IO) (fun _ _ _ _ _=>cp (i:=3) wJ.nd rfl `Cl) `aw'
    (fun _ _ _ _ _=>eP (aa (pv 3) (aa `iy' aB))))),?_⟩
   refine#[_,rfl,_,rfl,_,_,rfl,#[(rg `mt).1,(rg `mt).2,(rg `mt).1,(rg `mt).2],fun D hD=>O2 (R:=RM C9 fun x=>(x,x+1)) (p:=fun _=>true) (lo:=t) (n:=n - t) j9 hD (cO `mt) rfl `mt `bL' fun H' ys s' nh hp=>?_]
   ·refine#[rfl,_,rfl,_,rfl,_,_,rfl,rfl,by show 2<=sizeLine;decide,fun b hb=>tk rfl _ _ `fP' `mm']
   ·show 28;rw[ik];rfl
  ·show 1;exact .all fun us hl=>match us,hl with| [_,_],_=>rfl
  ·show 21;have:=yI hy;cases e;omega
  ·show 172
  ·exact iY h1 h2 H' r G m `bF' `fW' `fq' hK #[hG.1,hG.2.1,hG.2.2.1,fun r hr=>by rw[hG.2.2.2 r hr];exact Ik hr]
abbrev vq:du:=my 52
abbrev xj:List `ap':=[(lQ (eG vq 1),"bags.<locals>.moves")]
def PD (KA:rs) (T:ak):Sp:=fun vs H Q _=>∃n k:Nat,vs=`jE'/\cw H T xj/\`i6'/\(n<=20->k<=20->ut KA T xj H Q k n (.bags n k))
def OL:bY `gl' `db' (aw vq):=`dl
def HH:eR ["place","least","n","x"] `iE' ["n"] (aw (eG vq 1)):=`ld
def RB {f c T:ak} {fd:aH} (F:ox K "bags" "bags" vq f fd c T) (B:B5 KA P w K mg fB fA fdB fdA) (X3:Txt3 K mg):bT P w K mg base dj 6 f fd `db' (PD KA T):=by
 refine F.ok OL `ST `B'
 ·show 204;rfl
 ·obtain⟨n,k,rfl,hT,k8,iY⟩:=h;refine⟨_,am `aI'
   (am (jt (i:=2) (c:=c) (P:=T) (defs:=xj) (qual:="bags.<locals>.moves") rfl F.ck X3.blt `IO `BT `BT rfl rfl rfl (show ∀y∈(aw (eG vq 1)).names,y.2= .free->(aw vq).names.lookup y.1=some .cell\/(aw vq).names.lookup y.1=some .free by decide+kernel) OL.nd rfl `Cl)
   (aG (aY (`nY' B.okI hr `aS' `IO B.gB B.kB B.bB b9
    (aa (pv 1) (aa (pv 0) (aa aC (aa aC (aa (pv 2) (aa (`n3' `IO B.gA rfl) aB)))))))))),?_⟩
  show 40
  have h2:k<=20:=by have:=aj e2;omega
  refine `ak';refine jW B (Pj n) (fun _ t=>t<=n) `bw' (pm:=`iE') rfl rfl lI ?_ ?_ `aR' trivial h2 h1 (aN n) `bm' `bO' fun H' r G m s' qe hK hG=>?_
  ·obtain⟨doc,pm,cdv,ct,rfl⟩:=lW;refine g7 HH (`oj' g [0] rfl rfl rfl `BT `BT (show ∀x∈_,(aw vq).names.lookup x=_ by decide+kernel)) `Ty `j' fun A outer s H vs Q E hr ⟨i,v,t,e,ht,uj,_,q⟩=>?_;subst e;have ht:v=nV t:=ht;subst ht;refine⟨_,aG (aY (`oc' rfl HH.nd (xp `IO X3.nRange (aa (pv 1) `aC')) (di `IO) (fun _ _ _ _ _=>cp (i:=3) HH.nd rfl `Cl) `aw'
    (fun _ _ _ _ _=>eP (aa (pv 3) `aY')))),?_⟩
   refine#[_,rfl,_,rfl,_,_,rfl,#[(rg `mt).1,(rg `mt).2,(rg `mt).1,(rg `mt).2],fun D hD=>O2 (R:=RM C9 fun x=>(x,x)) (p:=fun _=>true) (lo:=t) (n:=n - t) j9 hD (cO `mt) rfl `mt `bL' fun H' ys s' nh hp=>?_]
   ·refine `di'
   ·show 28;rw[ik];rfl
  ·show 1;exact .all fun us hl=>match us,hl with| [_,_],_=>rfl
  ·show 21;have:=yI hy;cases e;omega
  ·show 172
  ·exact iY h1 h2 H' r G m `bF' `fW' `fq' hK #[hG.1,hG.2.1,hG.2.2.1,fun r hr=>by rw[hG.2.2.2 r hr];exact SH hr]
end
section
variable {KA:rs} {fB fA:ak} {fdB fdA:aH}
abbrev jV:du:=my 54
abbrev pX:List `ap':=[(lQ (eG jV 1),"shares.<locals>.moves"),((nc (eG jV 2)).1,"shares.<locals>.<lambda>")]
def E1 (KA:rs) (T:ak):Sp:=fun vs H Q _=>∃cf n jd most:Nat,vs=[nV cf,nV n,nV jd,nV most]/\cw H T pX/\(200<cf\/20<n\/19<jd\/19<most->Q .non H)/\(cf<=200->n<=20->jd<=19->most<=19->ut KA T pX H Q n `kt' `i5')
def F7:bY `ky' `c9' (aw jV):=`dl
def y9:eR `kI' `jr' ["least","most"] (aw (eG jV 1)):=`ld
def Qn:eR ["left"] ["left"] [] ((nc (eG jV 2)).2):=`ld
def L1 {f c T:ak} {fd:aH} (F:ox K "shares" "shares" jV f fd c T) (B:B5 KA P w K mg fB fA fdB fdA) (X3:Txt3 K mg):bT P w K mg base dj 6 f fd `c9' (E1 KA T):=by
 refine F.ok F7 `ST `B'
 ·obtain⟨cf,n,jd,most,rfl,_⟩:=h;rfl
 ·obtain⟨cf,n,jd,most,rfl,hT,k8,iY⟩:=h;refine⟨_,am (cC (jv `b2' (jv `dr' (jv `kU' (j7 (bb (fq (pv 3) aC)))))).pt `b1' br)
   (am (jt (i:=4) (c:=c) (P:=T) (defs:=pX) (qual:="shares.<locals>.moves") rfl F.ck X3.blt `IO `BT `BT rfl rfl rfl (show ∀y∈(aw (eG jV 1)).names,y.2= .free->(aw jV).names.lookup y.1=some .cell\/(aw jV).names.lookup y.1=some .free by decide+kernel) F7.nd rfl `Cl)
   (aG (aY (`nY' B.okI hr `aS' `IO B.gB B.kB B.bB b9
    (aa (pv 1) (aa `iy' (aa aC (aa (pv 0) (aa (pv 4) (aa (wV (c:=c) (P:=T) (defs:=pX) (qual:="shares.<locals>.<lambda>") rfl F.ck X3.blt `IO `BT `BT rfl (show ∀y∈(nc (eG jV 2)).2.names,y.2= .free->(aw jV).names.lookup y.1=some .cell\/(aw jV).names.lookup y.1=some .free by decide+kernel)) aB)))))))))),?_⟩
  rw[show L2.start `ky' [nV cf,nV n,nV jd,nV most]=[some (nV cf),some (nV n),some (nV jd),some (nV most),none] from rfl];refine#[_,rfl,cf,200,rfl,rfl,_,rfl,az `LT fun e1=>#[_,rfl,n,20,rfl,rfl,_,rfl,az `LT fun e2=>#[_,rfl,jd,19,rfl,rfl,_,rfl,az `LT fun e3=>#[_,rfl,most,19,rfl,rfl,_,rfl,az `ac' fun e4=>?_]]]];have h1:cf<=200:=by have:=aj e1;omega
  have h2:n<=20:=by have:=aj e2;omega
  have h3:jd<=19:=by have:=aj e3;omega
  have h4:most<=19:=by have:=aj e4;omega
  refine#[hT,fun fm fd H1 yG u7 lF sK lW=>#[_,rfl,_,rfl,_,_,rfl,rfl,_,rfl,_,rfl,lF,fun fe sm H2 QL Em sF rB qK base g=>?_]];show 12;refine pi (Fb jd most) (fun s=>s==0) (fun _ t=>t<=cf) `bw' `bw' (pm:=`jr') (pe:=["left"]) (L:=most+1) (z:=1) rfl rfl lI rB ?_ ?_ ?_ ?_ `aR' `aR' trivial trivial h2 `mt `KK (ax cf) `bm' `bO' fun H' r G m s' qe hK hG=>?_
  ·obtain⟨doc,pm,cdv,ct,rfl⟩:=lW;refine g7 y9 (fD (fvs:=[nV jd,nV most]) g [2,3] rfl rfl rfl `BT `BT (show ∀x∈_,(aw jV).names.lookup x=_ by decide+kernel)) `Ty `j' fun A outer s H vs Q E hr ⟨i,v,t,e,ht,uj,_,q⟩=>?_;subst e;have ht:v=nV t:=ht;subst ht;refine⟨_,aG (aY (jN (own:=[("x",4)]) rfl y9.nd (xp `IO X3.nRange (aa (pv 2) (aa (cJ gx (dq (t7 rfl) `IO X3.nMin `BT (aa (pv 3) `aN')) aC) aB))) (di `IO) (fun _ _ _ _ _=>cp (i:=4) y9.nd rfl `Cl) `aw'
    (fun _ _ _ _ _=>eP (aa (pv 4) (aa (cJ u0 (pv 1) (pv 4)) aB))))),?_⟩
   rw[show L2.start `kI' ([nV i,nV t]++[nV jd,nV most])=[some (nV i),some (nV t),some (nV jd),some (nV most),none] from rfl];have big:(1000:Int)<2^62:=by decide
   refine#[_,rfl,_,rfl,_,rfl,_,_,rfl,_,_,rfl,rfl,_,_,rfl,#[(rg `mt).1,(rg `mt).2,by split<;>omega,by split<;>omega],fun D hD=>O2 (R:=RM C9 fun x=>(x,t - x)) (p:=fun _=>true) (lo:=jd) (n:=min most t+1 - jd) j9 hD (cO `mt) rfl (by split<;>omega) `bL' fun H' ys s' nh hp=>?_]
   ·refine#[rfl,_,rfl,_,rfl,_,rfl,_,_,rfl,rfl,by show 2<=sizeLine;decide,fun b hb=>tk rfl _ _ `fP' #[b,_,rfl,aq,vk `mt]]
   ·show 28;rw[ik];rfl
  ·show 1;exact .all fun us hl=>match us,hl with| [_,_],_=>rfl
  ·show 7;refine wG Qn (`n8' g [] rfl rfl rfl `BT `BT (show ∀x∈_,(aw jV).names.lookup x=_ by decide+kernel)) `aV' `a2' fun A outer s H vs Q E hr ⟨v,t,e,ht,_,_,q⟩=>?_;show 15;refine#[_,mn (da (pv 0) aC),_,rfl,t,0,rfl,rfl,?_];have this:Q (.bl (t==0)) H:=q H `M';show 166
  ·show 7;exact .all fun us hl=>match us,hl with| [_],_=>rfl
  ·show 21;cases e;omega
  ·exact oy (aU (j2 (b:=201) nd fun x hx=>by have:=h x hx;omega) `KK)
  ·exact iY h1 h2 h3 h4 H' r G m `bF' `dv' `c5' hK #[hG.1,hG.2.1,hG.2.2.1,fun r hr=>by rw[hG.2.2.2 r hr];exact Mt hr]
end
section
variable {KA:rs} {fB fA:ak} {fdB fdA:aH}
def EW {k t:Nat} {i:Nat} (h:t<=k):oY k (nY k i t):=by
 unfold nY;by_cases e:t=k
 ·rw[aD e,bU];exact hX cM fun x hx=>by have:=aL.mp hx;omega
 ·rw[au e];have em:((List.range t).map (fun x=>(x,t))++[(t,t+1)]).map (·.1)=List.range (t+1):=by
   rw[bj,eK,eB]
   congr 1
   exact oN _
  unfold oY;rw[em];exact#[cM,fun y hy=>by have:=aL.mp hy;omega]
abbrev jY:du:=my 55
abbrev pK:List `ap':=[(lQ (eG jY 1),"groups.<locals>.moves"),((nc (eG jY 2)).1,"groups.<locals>.<lambda>")]
def FY (KA:rs) (T:ak):Sp:=fun vs H Q _=>∃n k:Nat,vs=`jE'/\cw H T pK/\(12<n\/12<k->Q .non H)/\(n<=12->k<=12->ut KA T pK H Q n k `lZ')
def E5:bY `gl' `db' (aw jY):=`dl
def AO:eR ["place","different","k","old","x"] ["place","different"] ["k"] (aw (eG jY 1)):=`ld
def OQ:eR ["different","k"] ["different"] ["k"] ((nc (eG jY 2)).2):=`ld
def LB {f c T:ak} {fd:aH} (F:ox K "groups" "groups" jY f fd c T) (B:B5 KA P w K mg fB fA fdB fdA) (X3:Txt3 K mg):bT P w K mg base dj 6 f fd `db' (FY KA T):=by
 refine F.ok E5 `ST `B'
 ·show 204;rfl
 ·obtain⟨n,k,rfl,hT,k8,iY⟩:=h;refine⟨_,am `aI'
   (am (jt (i:=2) (c:=c) (P:=T) (defs:=pK) (qual:="groups.<locals>.moves") rfl F.ck X3.blt `IO `BT `BT rfl rfl rfl (show ∀y∈(aw (eG jY 1)).names,y.2= .free->(aw jY).names.lookup y.1=some .cell\/(aw jY).names.lookup y.1=some .free by decide+kernel) E5.nd rfl `Cl)
   (aG (aY (`nY' B.okI hr `aS' `IO B.gB B.kB B.bB b9
    (aa (pv 0) (aa (pv 1) (aa aC (aa aC (aa (pv 2) (aa (wV (c:=c) (P:=T) (defs:=pK) (qual:="groups.<locals>.<lambda>") rfl F.ck X3.blt `IO `BT `BT rfl (show ∀y∈(nc (eG jY 2)).2.names,y.2= .free->(aw jY).names.lookup y.1=some .cell\/(aw jY).names.lookup y.1=some .free by decide+kernel)) aB)))))))))),?_⟩
  refine#[_,rfl,n,12,rfl,rfl,_,rfl,az `LT fun e1=>#[_,rfl,k,12,rfl,rfl,_,rfl,az `ac' fun e2=>?_]];have h1:n<=12:=by have:=aj e1;omega
  have h2:k<=12:=by have:=aj e2;omega
  refine `dc';show 12;refine pi (nY k) (fun s=>s==k) (fun _ t=>t<=k) `bw' `bw' (pm:=["place","different"]) (pe:=["different"]) (n:=n) (L:=k) (z:=1) rfl rfl lI rB ?_ ?_ ?_ ?_ `aR' `aR' trivial trivial `mt `mt `KK (aN k) (fun i t _ sE=>#[EW sE,fun x t' hm=>?_]) (fun i l _ nd h=>oy (aU (j2 (b:=13) nd fun x hx=>by have:=h x hx;omega) `KK)) fun H' r G m s' qe hK hG=>?_
  ·obtain⟨doc,pm,cdv,ct,rfl⟩:=lW;refine g7 AO (fD (fvs:=[nV k]) g [1] rfl rfl rfl `BT `BT (show ∀x∈_,(aw jY).names.lookup x=_ by decide+kernel)) `Ty `j' fun A outer s H vs Q E hr ⟨i,v,t,e,ht,uj,_,q⟩=>?_;subst e;have ht:v=nV t:=ht;subst ht;refine⟨_,am (rh (i:=3) (own:=[("x",4)]) rfl AO.nd rfl rfl `dU' (jc `IO X3.nRange `aN') (di `IO) (fun _ _ _ _ _=>cp (i:=4) AO.nd rfl `Cl) `aw'
    (fun _ _ _ _ _=>eP (aa (pv 4) `aN')))
    (am (cC (bb (da (pv 1) (pv 2))) (aG `jA') br)
    (aG (aY (cJ uY (pv 3) (db (aa (eP (aa (pv 1) (aa `ix' aB))) aB)))))),?_⟩
   refine#[_,rfl,_,rfl,(rg `mt).1,(rg `mt).2,fun D hD=>O2 (R:=RM C9 fun x=>(x,t)) (p:=fun _=>true) (lo:=0) (n:=t) j9 hD (cO `mt) rfl (bL t) `bL' fun H' ys s' nh hp=>?_]
   ·refine `di'
   ·rw[ik,<-de] at hp;have hm:=nb nh hp rfl;show 84
    ·have e:=af e;have e:t=k:=by omega
     refine#[_,rfl,q H' D s' hD ?_];unfold nY;rw[aD e,bU];exact hm
    ·have e:=aj e;have e:¬t=k:=by omega
     refine#[_,rfl,_,rfl,_,rfl,_,_,rfl,rfl,by show 2<=sizeLine;decide,fun b hb=>`iH'];obtain⟨as,yd,Ey⟩:=hm;have sb:aM H' (bO H' b (.tup [nV t,nV (t+1)])):=aM.new hb;have sa:=aM.put sb (sb.free ha) (o:=.lst [.ref b]);have K1:b≠a:=a9 aq ha;refine#[D,a,_,_,rfl,rfl,sa _ _ yd,aq,?_,fun p Ng=>?_]
     ·have:=bH Ey;rw[ae,bv] at this;rw[ae,this];exact eo (cO (by show t+1<=1000;omega))
     ·have sp:=aM.put sa (sa.free Ng) (o:=.lst (as.map V.ref++[.ref b]));refine q _ p (s'.trans sp) (s'.free (sa.free Ng)) #[as++[b],?_,?_]
      ·rw[aq,bj];rfl
      ·unfold nY;rw[au e];refine gH #[nV (t+1),?_,rfl] (b4 (fun c m ⟨v,h1,h2⟩=>#[v,sp _ _ h1,C9.keep h2 (ud sp)]) Ey);have hbp:b≠p:=fun z=>by rw[<-z,aZ K1,aq] at Ng;cases Ng
       rw[aZ hbp,aZ K1];exact aq
  ·show 1;exact .all fun us hl=>match us,hl with| [_,_],_=>rfl
  ·show 7;refine wG OQ (fD (fvs:=[nV k]) g [1] rfl rfl rfl `BT `BT (show ∀x∈_,(aw jY).names.lookup x=_ by decide+kernel)) `aV' `a2' fun A outer s H vs Q E hr ⟨v,t,e,ht,uj,_,q⟩=>?_;show 15;refine#[_,mn (da (pv 0) (pv 1)),_,rfl,_,rfl,t,k,rfl,rfl,?_];have this:Q (.bl (t==k)) H:=q H `M';show 166
  ·show 7;exact .all fun us hl=>match us,hl with| [_],_=>rfl
  ·rcases eN.mp hm with hm|hm
   ·show 21;cases e;exact sE
   ·by_cases hk:t=k
    ·rw[aD hk] at hm;cases hm
    ·rw[au hk] at hm;cases cT.mp hm;omega
  ·exact iY h1 h2 H' r G m `bF' `dv' `c5' hK #[hG.1,hG.2.1,hG.2.2.1,fun r hr=>by rw[hG.2.2.2 r hr];exact LS hr]
end
section
variable {KA:rs} {fB fA:ak} {fdB fdA:aH}
def IE {iZ t:Nat} {i:Nat}:oY 2 (oR iZ i t):=by
 unfold oR oY;by_cases h1:0<t<;>by_cases h2:t<iZ<;>simp[h1,h2]
abbrev mj:du:=my 56
abbrev rP:List `ap':=[(lQ (eG mj 1),"paths.<locals>.moves"),((nc (eG mj 2)).1,"paths.<locals>.<lambda>")]
def J2 (KA:rs) (T:ak):Sp:=fun vs H Q _=>∃n iZ endd:Nat,vs=[nV n,nV iZ,nV endd]/\cw H T rP/\(20<n\/20<iZ\/20<endd->Q .non H)/\(n<=20->iZ<=20->endd<=20->ut KA T rP H Q n 2 (.paths n iZ endd))
def J4:bY ["n","high","end","moves"] `fT' (aw mj):=`dl
def JR:eR ["place","height","high","steps"] ["place","height"] ["high"] (aw (eG mj 1)):=`ld
def RT:eR ["height","end"] ["height"] ["end"] ((nc (eG mj 2)).2):=`ld
def N5 {f c T:ak} {fd:aH} (F:ox K "paths" "paths" mj f fd c T) (B:B5 KA P w K mg fB fA fdB fdA) (X3:Txt3 K mg):bT P w K mg base dj 6 f fd `fT' (J2 KA T):=by
 refine F.ok J4 `ST `B'
 ·obtain⟨n,iZ,endd,rfl,_⟩:=h;rfl
 ·obtain⟨n,iZ,endd,rfl,hT,k8,iY⟩:=h;refine⟨_,am (cC (jv `b2' (jv `dr' (j7 `kU'))).pt `b1' br)
   (am (jt (i:=3) (c:=c) (P:=T) (defs:=rP) (qual:="paths.<locals>.moves") rfl F.ck X3.blt `IO `BT `BT rfl rfl rfl (show ∀y∈(aw (eG mj 1)).names,y.2= .free->(aw mj).names.lookup y.1=some .cell\/(aw mj).names.lookup y.1=some .free by decide+kernel) J4.nd rfl `Cl)
   (aG (aY (`nY' B.okI hr `aS' `IO B.gB B.kB B.bB b9
    (aa (pv 0) (aa aC (aa aC (aa aC (aa (pv 3) (aa (wV (c:=c) (P:=T) (defs:=rP) (qual:="paths.<locals>.<lambda>") rfl F.ck X3.blt `IO `BT `BT rfl (show ∀y∈(nc (eG mj 2)).2.names,y.2= .free->(aw mj).names.lookup y.1=some .cell\/(aw mj).names.lookup y.1=some .free by decide+kernel)) aB)))))))))),?_⟩
  refine#[_,rfl,n,20,rfl,rfl,_,rfl,az `LT fun e1=>#[_,rfl,iZ,20,rfl,rfl,_,rfl,az `LT fun e2=>#[_,rfl,endd,20,rfl,rfl,_,rfl,az `ac' fun e3=>?_]]];have h1:n<=20:=by have:=aj e1;omega
  have h2:iZ<=20:=by have:=aj e2;omega
  have h3:endd<=20:=by have:=aj e3;omega
  refine#[hT,fun fm fd H1 yG u7 lF sK lW=>#[_,rfl,_,rfl,lF,fun fe sm H2 QL Em sF rB qK base g=>?_]];show 12;refine pi (oR iZ) (fun s=>s==endd) (fun _ t=>t<=iZ) `bw' `bw' (pm:=["place","height"]) (pe:=["height"]) (n:=n) (L:=2) (z:=1) rfl rfl lI rB ?_ ?_ ?_ ?_ `aR' `aR' trivial trivial `mt `mt `KK (aN iZ) (fun i t _ sE=>#[IE,fun x t' hm=>?_]) (fun i l _ nd h=>oy (aU (j2 (b:=21) nd fun x hx=>by have:=h x hx;omega) `KK)) fun H' r G m s' qe hK hG=>?_
  ·obtain⟨doc,pm,cdv,ct,rfl⟩:=lW;refine g7 JR (fD (fvs:=[nV iZ]) g [1] rfl rfl rfl `BT `BT (show ∀x∈_,(aw mj).names.lookup x=_ by decide+kernel)) `Ty `j' fun A outer s H vs Q E hr ⟨i,v,t,e,ht,uj,_,q⟩=>?_;subst e;have ht:v=nV t:=ht;subst ht;refine⟨_,am (`n2' JR.nd rfl `Cl `l6')
    (am (cC `dr' (aG (gZ (nZ bu bX bW gN (pv 3) (aa (eP (aa aC (aa (cJ u0 (pv 1) aC) aB))) aB)))) br)
    (am (cC (bb (v0 (pv 1) (pv 2))) (aG (gZ (nZ bu bX bW gN (pv 3) (aa (eP (aa aC (aa `ix' aB))) aB)))) br)
    (aG `jA'))),?_⟩
   refine#[by show 0<=sizeLine;decide,fun D hD=>?_];have oH:∀(H':Hp) (as:List ak) (ms:List (Nat×Nat)),aM H H'->H' D=some `aq'->as.length<=1->Paired (fun b (m:Nat×Nat)=>∃v,H' b=some (.tup [nV m.1,v])/\C9.rep H' v m.2) as ms->ms++(if t<iZ then[(1,t+1)] else[])=oR iZ i t->
    Z5 (aaD (tB (tLt (oX 1) (oX 2))) (TW (tBM K "list" JK (oX 3) (sq (P1 (sq `ho' (sq (QS `fl' (oX 1) `ho') AQ))) AQ))) TZ) (Vp (oX 3)) {nx:=fun _ H'=>Q .non H',rt:=Q} [some (nV i),some (nV t),some (nV iZ),some `lJ'] H':=by
    intro H' as ms s' nh hl hp em;show 84
    ·have e:=af e;have e:t<iZ:=by omega
     rw[aD e] at em;refine#[_,rfl,.inl #[rfl,_,SqL.of nh],_,rfl,_,_,rfl,rfl,by show 2<=sizeLine;decide,fun b hb=>?_];have sb:aM H' `lO':=aM.new hb;have WT:D≠b:=a9 nh hb;refine#[D,_,_,rfl,rfl,sb _ _ nh,by rw[ae];exact cO `mt,_,rfl,?_];refine q _ D (fun c o ec=>?_) hD #[as++[b],?_,?_]
     ·rw[aZ (a9 ec hD)];exact sb _ _ (s' _ _ ec)
     ·rw[aq,bj];rfl
     ·have tk:∀c ys,H' c=some `eb'->(bO `lO' D (.lst (as.map V.ref++[.ref b]))) c=some `eb':=fun c ys ec=>by
       rw[aZ fun z=>by rw[z,nh] at ec;cases ec];exact sb _ _ ec
      rw[<-em];refine gH #[nV (t+1),?_,rfl] (b4 (fun c m ⟨v,h1,h2⟩=>#[v,tk _ _ h1,C9.keep h2 tk]) hp);rw[aZ WT.symm];exact aq
    ·have e:=aj e;have e:¬t<iZ:=by omega
     rw[au e,bU] at em;exact#[_,rfl,q H' D s' hD #[as,nh,by rw[<-em];exact hp]]
   refine#[_,rfl,_,_,rfl,rfl,_,rfl,az `A' fun e=>?_]
   ·have e:=af e;have e:0<t:=by omega
    refine#[_,rfl,.inl #[rfl,_,SqL.of (aq (H:=H) (a:=D) (o:=.lst []))],_,rfl,_,_,rfl,rfl,by show 2<=sizeLine;decide,fun b hb=>?_];have WT:D≠b:=a9 aq hb;have hbH:H b=Option.none:=by rw[aZ WT.symm] at hb;exact hb
    refine#[D,[],_,rfl,rfl,by rw[aZ WT];exact aq,by decide,?_];refine oH _ [b] [(0,t - 1)] (fun c o ec=>?_) aq (by show 1<=1;decide) (.cons #[_,?_,vk (b:=1) e] .nil) ?_
    ·rw[aZ (a9 ec hD),aZ (a9 ec hbH),aZ (a9 ec hD)];exact ec
    ·rw[aZ WT.symm];exact aq
    ·unfold oR;rw[aD e]
   ·have e:=aj e;have e:¬ 0<t:=by omega
    refine oH _ [] [] (aM.new hD) aq `KK .nil ?_;unfold oR;rw[au e]
  ·show 1;exact .all fun us hl=>match us,hl with| [_,_],_=>rfl
  ·show 7;refine wG RT (fD (fvs:=[nV endd]) g [2] rfl rfl rfl `BT `BT (show ∀x∈_,(aw mj).names.lookup x=_ by decide+kernel)) `aV' `a2' fun A outer s H vs Q E hr ⟨v,t,e,ht,uj,_,q⟩=>?_;show 15;refine#[_,mn (da (pv 0) (pv 1)),_,rfl,_,rfl,t,endd,rfl,rfl,?_];have this:Q (.bl (t==endd)) H:=q H `M';show 166
  ·show 7;exact .all fun us hl=>match us,hl with| [_],_=>rfl
  ·have sE:t<=iZ:=sE;show t'<=iZ;rcases eN.mp hm with hm|hm
   ·by_cases hk:0<t
    ·rw[aD hk] at hm;cases cT.mp hm;omega
    ·rw[au hk] at hm;cases hm
   ·by_cases hk:t<iZ
    ·rw[aD hk] at hm;cases cT.mp hm;omega
    ·rw[au hk] at hm;cases hm
  ·exact iY h1 h2 h3 H' r G m `bF' `dv' `c5' hK #[hG.1,hG.2.1,hG.2.2.1,fun r hr=>by rw[hG.2.2.2 r hr];exact Pl hr]
end
section
variable {KA:rs} {fB fA:ak} {fdB fdA:aH}
def wL {t:List Nat} {x y:Nat} (h:pJ t [x,y]):∃a b,t=[a,b]/\a<x/\b<y:=by
 match t,h with
 | [a,b],h=>exact#[a,b,rfl,h.1,h.2.1]
def HN {most cf:Nat} {t:List Nat} {i:Nat} (h:pJ t [most+1,cf+1]):oY `kt' (DI i t):=by
 obtain⟨a,b,rfl,ha,hb⟩:=wL h;exact hX cM fun x hx=>by
  have hx:x<min a b+1:=aL.mp hx;omega
def VV {H:Hp} {T p:ak} {defs:List `ap'} (t:cw H T defs) (h:H p=Option.none):p≠T:=by
 obtain⟨ps,h1,_⟩:=t;exact fun z=>by rw[z,h1] at h;cases h
abbrev mh:du:=my 53
abbrev rV:List `ap':=[(lQ (eG mh 1),"parts.<locals>.moves"),((nc (eG mh 2)).1,"parts.<locals>.<lambda>")]
def JS (KA:rs) (T:ak):Sp:=fun vs H Q _=>∃cf n most:Nat,vs=[nV cf,nV n,nV most]/\cw H T rV/\(60<cf\/20<n\/19<most->Q .non H)/\(cf<=60->n<=20->most<=19->ut KA T rV H Q n `kt' `et')
def J1:bY ["total","n","most","moves"] `eZ' (aw mh):=`dl
def yr:eR ["place","state","greatest","x"] `cb' [] (aw (eG mh 1)):=`ld
def SZ:eR `bM' `bM' [] ((nc (eG mh 2)).2):=`ld
def Ph {f c T:ak} {fd:aH} (F:ox K "parts" "parts" mh f fd c T) (B:B5 KA P w K mg fB fA fdB fdA) (X3:Txt3 K mg):bT P w K mg base dj 6 f fd `eZ' (JS KA T):=by
 refine F.ok J1 `ST `B'
 ·obtain⟨cf,n,most,rfl,_⟩:=h;rfl
 ·obtain⟨cf,n,most,rfl,hT,k8,iY⟩:=h;refine⟨_,am (cC (jv `b2' (jv `dr' (j7 `kU'))).pt `b1' br)
   (am (jt (i:=3) (c:=c) (P:=T) (defs:=rV) (qual:="parts.<locals>.moves") rfl F.ck X3.blt `IO `BT `BT rfl rfl rfl (show ∀y∈(aw (eG mh 1)).names,y.2= .free->(aw mh).names.lookup y.1=some .cell\/(aw mh).names.lookup y.1=some .free by decide+kernel) J1.nd rfl `Cl)
   (aG (aY (`nY' B.okT hr `aS' `IO B.gB B.kB B.bB b9
    (aa (pv 1) (aa `mx' (aa aC (aa (eP (aa (pv 2) `aM')) (aa (pv 3) (aa (wV (c:=c) (P:=T) (defs:=rV) (qual:="parts.<locals>.<lambda>") rfl F.ck X3.blt `IO `BT `BT rfl (show ∀y∈(nc (eG mh 2)).2.names,y.2= .free->(aw mh).names.lookup y.1=some .cell\/(aw mh).names.lookup y.1=some .free by decide+kernel)) aB)))))))))),?_⟩
  refine#[_,rfl,cf,60,rfl,rfl,_,rfl,az `LT fun e1=>#[_,rfl,n,20,rfl,rfl,_,rfl,az `LT fun e2=>#[_,rfl,most,19,rfl,rfl,_,rfl,az `ac' fun e3=>?_]]];have h1:cf<=60:=by have:=aj e1;omega
  have h2:n<=20:=by have:=aj e2;omega
  have h3:most<=19:=by have:=aj e3;omega
  refine#[hT,fun fm fd H1 yG u7 lF sK lW=>#[_,rfl,_,rfl,_,_,rfl,rfl,_,rfl,_,rfl,by show 2<=sizeLine;decide,fun p hp=>#[_,rfl,cw.same lF `fQ',fun fe sm H2 QL Em sF rB qK base g=>?_]]];have kb:cn T H H2:=cn.trans (cn.same u7 `fQ') Em;have lI:=FnAt.but (FnAt.same `fQ' sK) (cw.same lF `fQ') Em;refine pi (DI) (fun s=>s.getD 1 0==0) (fun _ t=>pJ t [most+1,cf+1]) `bw' `bw' (pm:=`cb') (pe:=`bM') (n:=n) (L:=`kt') (z:=1) (s:=[most,cf]) rfl #[p,rfl,Em p _ aq (VV lF hp)] lI rB ?_ ?_ ?_ ?_ `aR' `aR' trivial trivial `mt `mt `KK #[iJ _,iJ _,trivial] (fun i t _ sE=>#[HN sE,fun x t' hm=>?_]) (fun i l _ nd h=>bG (qt nd h) (by show `kt'*((cf+1)*1)<rJ;have:`kt'*((cf+1)*1)<=20*(61*1):=hJ `mt (hJ `mt (ax _));exact bG this `KK)) fun H' r G m s' qe hK hG=>?_
  ·obtain⟨doc,pm,cdv,ct,rfl⟩:=lW;refine g7 yr (`n8' g [] rfl rfl rfl `BT `BT (show ∀x∈_,(aw mh).names.lookup x=_ by decide+kernel)) `Ty `j' fun A outer s H vs Q E hr ⟨i,v,t,e,ht,uj,_,q⟩=>?_;subst e;obtain⟨a,b,rfl,ha,hb⟩:=wL uj;obtain⟨sb,rfl,hs⟩:=ht;have hs:=hs;refine⟨_,am (`n1' yr.nd rfl `Cl (dq (t7 rfl) `IO X3.nMin `BT (aa (bz ee (pv 1) aC `Ch) (aa (bz ee (pv 1) aC `Ch) aB))))
    (aG (aY (`oc' rfl yr.nd (jc `IO X3.nRange (aa `mx' aB)) (di `IO) (fun _ _ _ _ _=>cp (i:=3) yr.nd rfl `Cl) `aw'
    (fun _ _ _ _ _=>eP (aa (pv 3) (aa (eP (aa (pv 3) (aa (cJ u0 (`nW' (pv 1) aC `Ch) (pv 3)) aB))) aB)))))),?_⟩
   have big:(1000:Int)<2^62:=by decide
   refine#[_,rfl,sb,_,0,nV a,rfl,rfl,iX.of hs,rfl,_,rfl,sb,_,1,nV b,rfl,rfl,iX.of hs,rfl,a,b,rfl,?_];rw[show `ih'=((min a b:Nat):Int) by split<;>omega];refine#[_,rfl,_,_,rfl,rfl,_,rfl,by omega,by omega,fun D hD=>O2 (R:=RM Sx fun x=>(x,[x,b - x])) (p:=fun _=>true) (lo:=0) (n:=min a b+1) j9 hD (cO `mt) rfl `mt `bL' fun H' ys s' nh hp=>?_]
   ·refine#[rfl,_,rfl,_,rfl,_,rfl,sb,_,1,nV b,rfl,rfl,iX.of (s2 _ _ hs),rfl,_,rfl,_,_,rfl,rfl,by show 2<=sizeLine;decide,fun p hp=>`im'];have sp:aM H2 (bO H2 p (.tup `lX')):=aM.new hp;show 160;show some (HO.tup `lX')=_;rw[vk `mt];rfl
   ·show 28;rw[ik,<-de];rfl
  ·show 1;exact .all fun us hl=>match us,hl with| [_,_],_=>rfl
  ·show 7;refine wG SZ (`n8' g [] rfl rfl rfl `BT `BT (show ∀x∈_,(aw mh).names.lookup x=_ by decide+kernel)) `aV' `a2' fun A outer s H vs Q E hr ⟨v,t,e,ht,uj,_,q⟩=>?_;subst e;obtain⟨a,b,rfl,ha,hb⟩:=wL uj;obtain⟨sb,rfl,hs⟩:=ht;have hs:=hs;refine#[_,mn (da (bz ee (pv 0) aC `Ch) aC),_,rfl,sb,_,1,nV b,rfl,rfl,iX.of hs,rfl,b,0,rfl,rfl,?_];have this:Q (.bl (b==0)) H:=q H `M';show 166
  ·show 7;exact .all fun us hl=>match us,hl with| [_],_=>rfl
  ·obtain⟨a,b,rfl,ha,hb⟩:=wL sE;show 21;have hy:=aL.mp hy;have hy:y<min a b+1:=hy;cases e;exact#[by omega,by show b - x<cf+1;omega,trivial]
  ·exact iY h1 h2 h3 H' r G m `bF' `dv' `c5' hK #[hG.1,hG.2.1,hG.2.2.1,fun r hr=>by rw[hG.2.2.2 r hr];exact P3 hr]
end
def D5 {u x:Nat}:(u:Int)/2^(x:Int).toNat=((u/2^x:Nat):Int):=by
 rw[bL];simp
def Qz {u x:Nat}:Builtin.bitAnd `hK' 1=((u/2^x%2:Nat):Int):=by
 rw[D5,bitAnd_m1];omega
def OO {u x:Nat}:decide (Builtin.bitAnd `hK' 1=0)= !u.testBit x:=by
 rw[Qz,gw,<-decide_not];show 190
def C7 {u x:Nat}:decide (Builtin.bitAnd `hK' 1=1)=u.testBit x:=by
 rw[Qz,gw];show 190
def Kk {x:Nat}:(1:Int)*2^(x:Int).toNat=((2^x:Nat):Int):=by
 rw[bL,Int.one_mul];simp
def IG {u x:Nat}:Builtin.bitOr (u:Int) ((1:Int)*2^(x:Int).toNat)=((u|||2^x:Nat):Int):=by
 rw[Kk,Bits.bitOr_pp (fi _) (fi _),bL,bL]
def yN {x:Nat} (h:x<=1000):V2 1 (x:Int):=#[by omega,by omega,by decide]
def KI {a b:Nat}:Builtin.bitAnd (a:Int) (b:Int)=((a&&& b:Nat):Int):=by
 rw[bitAnd_pp `mt `mt,bL,bL]
abbrev DA:du:=my 16
def unF (n u:Nat):List Nat:=(List.range n).filter fun x=> !u.testBit x
def EN:Sp:=fun vs H Q _=>∃n u:Nat,vs=[nV n,nV u]/\n<=20/\∀(H':Hp) (l:ak),aM H H'->H l=Option.none->H' l=some (.lst ((unF n u).map nV))->Q `cp' H'
def Ao:bY ["n","used","x"] `kx' (aw DA):=`dl
def L3 {f:ak} {fd:aH} (F:nv K "unused" "unused" DA f fd) (X3:Txt3 K mg):bT P w K mg base dj 1 f fd `kx' EN:=by
 refine F.ok Ao `ST `LE
 ·obtain⟨n,u,rfl,_⟩:=h;rfl
 ·obtain⟨n,u,rfl,hn,q⟩:=h;refine⟨_,aG (aY (jN (own:=[("x",2)]) rfl Ao.nd (jc `IO X3.nRange `aM') (di `IO) (fun _ _ _ _ _=>cp (i:=2) Ao.nd rfl `Cl)
   (fun _ _ _ _ _=>jA (bb (da (cJ xa (cJ yY (pv 1) (pv 2)) aC) aC))) (fun _ _ _ _ _=>pv 2))),?_⟩
  rw[show L2.start ["n","used","x"] [nV n,nV u]=[some (nV n),some (nV u),none] from rfl];refine#[_,rfl,_,rfl,(rg `mt).1,(rg `mt).2,fun D hD=>O2 (R:=RN) (p:=fun x=> !u.testBit x) (lo:=0) (n:=n) ww hD (cO `mt) rfl (bL n) `cu' fun H' ys s' nh hp=>?_]
  ·refine#[rfl,_,rfl,_,rfl,_,_,rfl,rfl,fi x,_,_,rfl,rfl,_,_,rfl,rfl,_,rfl,az `A' fun e=>?_]
   ·rw[show `E' _ 0= !u.testBit x from OO] at e;show 137
   ·rw[show `E' _ 0= !u.testBit x from OO] at e;show 75
  ·refine q H' D s' hD ?_;rw[nh,kU hp,<-de];rfl
structure Uns (P:bN) (w:cV) (K:ai) (mg:Str->Option aA) (fU:ak) (fdU:aH):Prop where
 g:mg "unused"=some (.ref fU)
 k:keepIn K (.ref fU)=true
 b:fV K fdU `kx' []
 ok:∀base,bT P w K mg base dj 1 fU fdU `kx' EN
section
variable {KA:rs} {fB fA:ak} {fdB fdA:aH}
abbrev gX:du:=my 17
abbrev jO:List `ap':=[(lQ (eG gX 1),"derangements.<locals>.moves")]
def tE (KA:rs) (T:ak):Sp:=fun vs H Q _=>∃n:Nat,vs=[nV n]/\cw H T jO/\(7<n->Q .non H)/\(n<=7->ut KA T jO H Q n n `ir')
def tH:bY ["n","moves"] ["n"] (aw gX):=`dl
def pL:eR ["place","used","n","x"] `js' ["n"] (aw (eG gX 1)):=`ld
def N6 {u x n:Nat} (h1:u<2^n) (h2:x<n):u|||2^x<2^n:=Nat.or_lt_two_pow h1 (Nat.pow_lt_pow_right `KK h2)
def p7 {n:Nat} (h:n<=7):2^n<=1000:=aU (g9 `KK h) `KK
def vK {n u x:Nat} (h:x∈unF n u):x<n:=aL.mp (aO.mp h).1
def DE {n u:Nat}:(unF n u).length<=n:=by
 have:=fc (fun x=> !u.testBit x) (List.range n);rw[bv] at this;exact this
def lD {a b:Nat}:(!decide `mq')=decide (a≠b):=by
 rw[<-decide_not];show 190
def xU {f c T fU:ak} {fd fdU:aH} (F:ox K "derangements" "derangements" gX f fd c T) (B:B5 KA P w K mg fB fA fdB fdA) (U:Uns P w K mg fU fdU) (X3:Txt3 K mg):bT P w K mg base dj 6 f fd ["n"] (tE KA T):=by
 refine F.ok tH `ST `B'
 ·obtain⟨n,rfl,_⟩:=h;rfl
 ·obtain⟨n,rfl,hT,k8,iY⟩:=h;refine⟨_,am (cC `b2' `b1' br)
   (am (jt (i:=1) (c:=c) (P:=T) (defs:=jO) (qual:="derangements.<locals>.moves") rfl F.ck X3.blt `IO `BT `BT rfl rfl rfl (show ∀y∈(aw (eG gX 1)).names,y.2= .free->(aw gX).names.lookup y.1=some .cell\/(aw gX).names.lookup y.1=some .free by decide+kernel) tH.nd rfl `Cl)
   (aG (aY (`nY' B.okI hr `aS' `IO B.gB B.kB B.bB b9
    (aa (pv 0) (aa (pv 0) (aa aC (aa aC (aa (pv 1) (aa (`n3' `IO B.gA rfl) aB)))))))))),?_⟩
  rw[show L2.start ["n","moves"] [nV n]=[some (nV n),none] from rfl];show 27
  refine `ak';refine jW B (Ug n) (fun _ t=>t<2^n) `bw' (pm:=`js') rfl rfl lI ?_ ?_ `aR' trivial `mt `mt (lS n) `a9' `bO' fun H' r G m s' qe hK hG=>?_
  ·obtain⟨doc,pm,cdv,ct,rfl⟩:=lW;refine g7 pL (`oj' g [0] rfl rfl rfl `BT `BT (show ∀x∈_,(aw gX).names.lookup x=_ by decide+kernel)) `Ty `j' fun A outer s H vs Q E hr ⟨i,v,t,e,ht,uj,_,q⟩=>?_;subst e;have ht:v=nV t:=ht;subst ht;refine⟨_,aG (aY (`oc' rfl pL.nd (iF (`nU' (U.ok base) (hr.mono `KK) `IO U.g U.k U.b .nil b9 (aa (pv 2) `aN'))) (di `IO) (fun _ _ _ _ _=>cp (i:=3) pL.nd rfl `Cl)
    (fun _ _ _ _ _=>jA (bb (l8 (pv 3) (pv 0)))) (fun _ _ _ _ _=>eP (aa (pv 3) (aa (cJ P6 (pv 1) (cJ uR aC (pv 3))) aB))))),?_⟩
   rw[show L2.start ["place","used","n","x"] ([nV i,nV t]++[nV n])=[some (nV i),some (nV t),some (nV n),none] from rfl];refine#[_,rfl,_,rfl,n,t,rfl,by omega,fun H3 l s3 hl BG=>#[l,rfl,`kJ',fun D hD=>O9 (R:=RM C9 fun x=>(x,t|||2^x)) (p:=fun x=>decide (x≠i)) j9 BG hD (cO (by have:=DE (n:=n) (u:=t);omega)) `bp' fun H' ys s' nh hp=>?_]]
   ·have UJ:=vK hx;show 200
    ·show 60;show 34
    ·show 60;show 75
   ·show 227
  ·show 1;exact .all fun us hl=>match us,hl with| [_,_],_=>rfl
  ·show 21;have:=vK (aO.mp hy).1;cases e;exact N6 sE this
  ·exact oy (aU (j2 nd h) (p7 h1))
  ·exact iY h1 H' r G m `bF' `fW' `fq' hK #[hG.1,hG.2.1,hG.2.2.1,fun r hr=>by rw[hG.2.2.2 r hr];exact ya hr]
end
section
variable {KA:rs} {fB fA:ak} {fdB fdA:aH}
abbrev mY:du:=my 18
abbrev pd:List `ap':=[(lQ (eG mY 1),"zigzags.<locals>.moves")]
def Cr (KA:rs) (T:ak):Sp:=fun vs H Q _=>∃n:Nat,vs=[nV n]/\cw H T pd/\(7<n->Q .non H)/\(n<=7->ut KA T pd H Q n n `nb')
def B4:bY ["n","moves"] ["n"] (aw mY):=`dl
def lu:eR ["place","state","n","used","fitting","x"] `cb' ["n"] (aw (eG mY 1)):=`ld
def yn {i:Nat} (k:Nat):decide ((i:Int)%2=(k:Int))=decide (i%2=k):=b5.mpr `F'
def lE {a b:Nat}:decide ((a:Int)< (b:Int))=decide (a<b):=b5.mpr `F'
def G7 {f c T fU:ak} {fd fdU:aH} (F:ox K "zigzags" "zigzags" mY f fd c T) (B:B5 KA P w K mg fB fA fdB fdA) (U:Uns P w K mg fU fdU) (X3:Txt3 K mg):bT P w K mg base dj 6 f fd ["n"] (Cr KA T):=by
 refine F.ok B4 `ST `B'
 ·obtain⟨n,rfl,_⟩:=h;rfl
 ·obtain⟨n,rfl,hT,k8,iY⟩:=h;refine⟨_,am (cC `b2' `b1' br)
   (am (jt (i:=1) (c:=c) (P:=T) (defs:=pd) (qual:="zigzags.<locals>.moves") rfl F.ck X3.blt `IO `BT `BT rfl rfl rfl (show ∀y∈(aw (eG mY 1)).names,y.2= .free->(aw mY).names.lookup y.1=some .cell\/(aw mY).names.lookup y.1=some .free by decide+kernel) B4.nd rfl `Cl)
   (aG (aY (`nY' B.okT hr `aS' `IO B.gB B.kB B.bB b9
    (aa (pv 0) (aa (pv 0) (aa aC (aa (eP `hO') (aa (pv 1) (aa (`n3' `IO B.gA rfl) aB)))))))))),?_⟩
  show 27
  refine#[hT,fun fm fd H1 yG u7 lF sK lW=>#[_,rfl,_,rfl,by show 2<=sizeLine;decide,fun p hp=>`iG']];have kb:=cn.same u7 `fy';have lI:=FnAt.same `fy' sK;have sF:=cw.same lF `fy';refine jW B (M:=Sx) (TM n) (fun _ t=>pJ t [2^n,n+1]) `bw' (s:=[0,0]) (pm:=`cb') rfl #[p,rfl,aq] lI ?_ ?_ `aR' trivial `mt `mt #[lS n,jQ n,trivial] `a9' `bO' fun H' r G m s' qe hK hG=>?_
  ·obtain⟨doc,pm,cdv,ct,rfl⟩:=lW;refine g7 lu (`oj' g [0] rfl rfl rfl `BT `BT (show ∀x∈_,(aw mY).names.lookup x=_ by decide+kernel)) `Ty `j' fun A outer s H vs Q E hr ⟨i,v,t,e,ht,uj,_,q⟩=>?_;subst e;obtain⟨m,la,rfl,hm2,Q5⟩:=wL uj;obtain⟨sb,rfl,hs⟩:=ht;have hs:H sb=some (.tup [nV m,nV la]):=hs;refine⟨_,am (`n2' lu.nd rfl `b0' (bz ee (pv 1) aC `Ch))
    (am (`n9' lu.nd rfl `Cl (`nU' (U.ok base) (hr.mono `KK) `IO U.g U.k U.b .nil b9 (aa (pv 2) `aY')))
    (am (cC `mu' (aG (`ok' rfl lu.nd rfl rfl `dU' `hS' (di `IO) (fun _ _ _ _ _=>cp (i:=5) lu.nd rfl `Cl) (fun _ _ _ _ _=>jA (bb (fq (pv 5) (`nW' (pv 1) aC `Ch)))) `gt')) br)
    (am (cC (Qg `b2' (Kg `mu')).pt (aG (`ok' rfl lu.nd rfl rfl `dU' `hS' (di `IO) (fun _ _ _ _ _=>cp (i:=5) lu.nd rfl `Cl) (fun _ _ _ _ _=>jA (bb (v0 (pv 5) (`nW' (pv 1) aC `Ch)))) `gt')) br)
    (aG (aY (`om' rfl lu.nd `hS' (di `IO) (fun _ _ _ _ _=>cp (i:=5) lu.nd rfl `Cl) `aw'
     (fun _ _ _ _ _=>eP (aa (pv 5) (aa (eP (aa (cJ P6 (pv 3) (cJ uR aC (pv 5))) `cP')) aB))))))))),?_⟩
   refine#[_,rfl,sb,_,0,nV m,rfl,rfl,iX.of hs,rfl,_,rfl,_,rfl,n,m,rfl,by omega,fun H3 l s3 hl BG=>?_];have oH:∀(H':Hp) (l:ak) (ls:List Nat),aM H H'->H' l=some `fL'->ls=(unF n m).filter (fun x=>uI i la x)->
    Vp (tLc (TU K (oX 4)) (ss 5) aau (P1 (sq (oX 5) (sq (P1 (sq (QS `jO' (oX 3) (QS `kH' `ho' (oX 5))) (sq (oX 5) AQ))) AQ))) [5]) {nx:=fun _ H'=>Q .non H',rt:=Q} [some (nV i),some (.ref sb),some (nV n),some (nV m),some `cp',none] H':=by
    intro H' l ls s' sJ els;have fY:ls.length<=n:=by
     rw[els];exact aU (fc ..) DE
    refine#[_,rfl,l,rfl,#[_,SqL.of sJ],fun D hD=>O9 (R:=RM Sx fun x=>(x,[m|||2^x,x])) (p:=fun _=>true) j9 sJ hD (cO `mt) `bp' fun H5 ys s5 nh hp=>?_]
    ·have UJ:x<n:=by
      rw[els] at hx;exact vK (aO.mp hx).1
     refine#[rfl,_,rfl,_,rfl,_,rfl,_,_,rfl,rfl,yN `mt,_,_,rfl,rfl,_,rfl,by show 2<=sizeLine;decide,fun p hp=>`im'];have sp:aM H4 (bO H4 p (.tup `fB')):=aM.new hp;show 160;show some (HO.tup `fB')=_;rw[IG];rfl
    ·refine q H5 D (s'.trans s5) (s'.free hD) `cV';rw[ik,els];rfl
   have hun:=DE (n:=n) (u:=m);refine#[_,rfl,_,_,rfl,rfl,(show(0:Int)<2 by decide),i%2,1,rfl,rfl,_,rfl,az `A' fun e=>?_]
   ·show 217;have e:=af e;refine#[_,rfl,l,rfl,`kJ',fun D hD=>O9 (R:=RN) (p:=fun x=>decide (la<x)) ww BG hD (cO `mt) `bp' fun H5 ys s5 nh hp=>?_]
    ·show 70
     ·show 211;show 137
     ·show 211;show 75
    ·refine `a6'
     ·show 208;have:=af e2;omega
     all_goals
      show 139;rw[aD e]
   ·show 217;have e:=aj e;refine `a6'
    ·rw[show `aJ' (i:Int) 0=decide (0<i) from lE] at e1;have e1:=af e1;refine#[_,rfl,l,rfl,`kJ',fun D hD=>O9 (R:=RN) (p:=fun x=>decide (x<la)) ww BG hD (cO `mt) `bp' fun H5 ys s5 nh hp=>?_]
     ·show 70
      ·show 212;show 137
      ·show 212;show 75
     ·show 139;rw[au e,aD e1]
    ·show 208;have:=aj e2;omega
    ·rw[show `aJ' (i:Int) 0=decide (0<i) from lE] at e1;have e1:=aj e1;refine oH H3 l _ s3 BG (Eq.symm (List.filter_eq_self.mpr fun x _=>?_));unfold uI;rw[au e,au e1]
  ·show 1;exact .all fun us hl=>match us,hl with| [_,_],_=>rfl
  ·obtain⟨a,b,rfl,ha,hb⟩:=wL sE;show 21;have:=vK (aO.mp hy).1;cases e;exact#[N6 ha this,kn this,trivial]
  ·refine bG (qt nd h) ?_;have:2^n*((n+1)*1)<=1000*(8*1):=hJ (p7 h1) (hJ `mt (ax _));exact bG this `KK
  ·exact iY h1 H' r G m `bF' `dv' `c5' hK #[hG.1,hG.2.1,hG.2.2.1,fun r hr=>by rw[hG.2.2.2 r hr];exact Il hr]
end
def RD {l:List Nat} {x:Nat} (hx:x<l.length):ou `bR' none `lk'=(l.take x).map nV:=by
 unfold ou;rw[HT.sIx_none,HT.sIx_nat,ae,fZ,iC,Nat.min_eq_left (eo hx),lM]
def Pq {l:List Nat} {x:Nat} (hx:x<l.length):ou `bR' (some ((x+1:Nat):Int)) none=(l.drop (x+1)).map nV:=by
 unfold ou;rw[HT.sIx_none,HT.sIx_nat,ae,Nat.min_eq_left hx,lN,cS];rw[b6,ae];exact ax _
section
variable {K:ai}
abbrev Z1 (K:ai) (i ix:Nat) (tm:TE):TE:=QS (sQ K) (QS (sQ K) (tSl (Fa K) (oX i) yw (JQ (oX ix))) (P1 (sq tm AQ))) (tSl (Fa K) (oX i) (JQ (QS `fl' (oX ix) `ho')) yw)
def Kn {H:Hp} {Q:VK} {sb:ak} {l:List Nat} {x v i ix:Nat} {tm:TE} {σ:L2.St} (hi:σ[i]? =some (some (.ref sb))) (Wp:σ[ix]? =some (some (nV x))) (hs:H sb=some (.tup `bR')) (hx:x<l.length) (hl:l.length<=20)
 (hm:∀(H1:Hp) (Q1:VK),aM H H1->Q1 (nV v) H1->tm σ H1 Q1) (q:∀(H':Hp) (p:ak),aM H H'->H' p=some (.tup ((l.set x v).map nV))->Q `dR' H'):Z1 K i ix tm σ H Q:=by
 have big:100<sizeLine:=by decide
 have NB:(l.map nV).length=l.length:=ae ..;refine#[_,hi,_,Wp,(x:Int),rfl,sb,_,rfl,iX.of hs,?_,fun p1 CP=>?_]
 ·rw[HT.sIx_none,HT.sIx_nat,NB];intro z;have:=z.2;omega
 rw[RD hx];have s1:aM H (bO H p1 `ds'):=aM.new CP;have e1:(bO H p1 `ds') p1=some `ds':=aq;generalize bO H p1 `ds'=H1 at s1 e1⊢
 refine hm H1 _ s1 #[by show 1<=sizeLine;decide,fun p2 Ey=>?_];have s2:aM H1 (bO H1 p2 `l0'):=aM.new Ey;have e2:(bO H1 p2 `l0') p2=some `l0':=aq;have e21:=s2 _ _ e1;have MQ:=s1.trans s2;generalize bO H1 p2 `l0'=H2 at s2 e2 e21 MQ⊢
 have oH:∀(H3:Hp) (p3:ak),aM H H3->H3 p3=some (.tup ((l.take x++[v]).map nV))->
  tSl (Fa K) (oX i) (JQ (QS `fl' (oX ix) `ho')) yw σ H3 fun y H4=>sQ K (.ref p3) y H4 Q:=by
  intro H3 p3 s3 e3;refine#[_,hi,_,Wp,_,_,rfl,rfl,((x+1:Nat):Int),rfl,sb,_,rfl,iX.of (s3 _ _ hs),?_,fun p4 UZ=>?_]
  ·rw[HT.sIx_none,HT.sIx_nat,NB];intro z;have:=z.1;omega
  rw[Pq hx];have s4:aM H3 (bO H3 p4 `dX'):=aM.new UZ;have e4:(bO H3 p4 `dX') p4=some `dX':=aq;have e43:=s4 _ _ e3;have s34:=s3.trans s4;generalize bO H3 p4 `dX'=H4 at s4 e4 e43 s34⊢
  have Zd:l.set x v=(l.take x++[v])++l.drop (x+1):=by
   rw[List.set_eq_take_append_cons_drop,aD hx,cI];rfl
  refine#[p3,p4,_,_,rfl,rfl,iX.of e43,iX.of e4,?_,fun z=>?_,fun _ z=>?_,fun _ _ p5 KL=>?_]
  ·rw[ae,ae,aE,be,b6,cz];omega
  ·rw[bj] at z;exact absurd z `S'
  ·refine q H4 p3 s34 ?_;have z:l.drop (x+1)=[]:=jw.mp z;rw[Zd,z,bU];exact e43
  ·refine q _ p5 (aM.put s34 (s34.free KL)) ?_;rw[aq,Zd,bj (l₁:=l.take x++[v])]
 refine#[p1,p2,_,_,rfl,rfl,iX.of e21,iX.of e2,?_,fun z=>?_,fun _ z=>(nomatch z),fun _ _ p3 X7=>?_]
 ·rw[ae,be];show min x l.length+1<=sizeLine;omega
 ·refine oH H2 p2 MQ ?_;have z:l.take x=[]:=jw.mp z;rw[z];exact e2
 ·refine oH _ p3 (aM.put MQ (MQ.free X7)) ?_;rw[aq,bj];rfl
end
section
variable {KA:rs} {fB fA:ak} {fdB fdA:aH}
abbrev oO:du:=my 15
abbrev rp:List `ap':=[(lQ (eG oO 1),"orders.<locals>.moves")]
def EU (KA:rs) (T:ak):Sp:=fun vs H Q _=>∃(a:ak) (cs:List Nat),vs=`eH'/\H a=some (.lst (cs.map nV))/\cw H T rp/\(8<cs.length\/10<Wqarao.sum cs->Q .non H)/\(cs.length<=8->Wqarao.sum cs<=10->ut KA T rp H Q (Wqarao.sum cs) cs.length (.orders cs))
def Gj:bY ["counts","moves"] `nE' (aw oO):=`dl
def AI:eR ["place","left","x"] `jr' [] (aw (eG oO 1)):=`ld
def yV (l:List Nat):l.map nV=(l.map fun(n:Nat)=>(n:Int)).map V.int:=by
 rw[eK];rfl
def LQ {f c T:ak} {fd:aH} (F:ox K "orders" "orders" oO f fd c T) (B:B5 KA P w K mg fB fA fdB fdA) (X3:Txt3 K mg):bT P w K mg base dj 6 f fd `nE' (EU KA T):=by
 refine F.ok Gj `ST `B'
 ·obtain⟨a,cs,rfl,_⟩:=h;rfl
 ·obtain⟨a,cs,rfl,ha,hT,k8,iY⟩:=h;refine⟨_,am (cC (jv (bb (fq (dq eu `IO X3.nLen cY `aM') aC)) (j7 (bb (fq (dq (C6 rfl) `IO X3.nSum boot_sum `aM') aC)))).pt `b1' br)
   (am (jt (i:=1) (c:=c) (P:=T) (defs:=rp) (qual:="orders.<locals>.moves") rfl F.ck X3.blt `IO `BT `BT rfl rfl rfl (show ∀y∈(aw (eG oO 1)).names,y.2= .free->(aw oO).names.lookup y.1=some .cell\/(aw oO).names.lookup y.1=some .free by decide+kernel) Gj.nd rfl `Cl)
   (aG (aY (`nY' B.okT hr `aS' `IO B.gB B.kB B.bB b9
    (aa (dq (C6 rfl) `IO X3.nSum boot_sum `aM') (aa (dq eu `IO X3.nLen cY `aM') (aa aC (aa (mw qG `IO X3.nTuple boot_tuple `aM') (aa (pv 1) (aa (`n3' `IO B.gA rfl) aB)))))))))),?_⟩
  have XG:∀H':Hp,H' a=some (.lst (cs.map nV))->SqL K H' a ((cs.map fun(n:Nat)=>(n:Int)).map V.int):=fun H' h=>by rw[<-yV];exact SqL.of h
  refine#[_,rfl,a,_,rfl,.inl (SqL.of ha),cs.length,8,by rw[ae],rfl,_,rfl,az `LT fun e1=>#[_,rfl,a,_,rfl,XG H ha,Wqarao.sum cs,10,by rw[ym],rfl,_,rfl,az `ac' fun e2=>?_]];have h1:cs.length<=8:=by have:=aj e1;omega
  have h2:Wqarao.sum cs<=10:=by have:=aj e2;omega
  refine#[hT,fun fm fd H1 yG u7 lF sK lW=>?_];have CY:a≠T:=by
   show 78
  have TJ:=u7 _ _ ha CY;refine#[_,rfl,a,_,rfl,XG H1 TJ,?_];rw[ym];refine#[_,rfl,a,_,rfl,.inl (SqL.of TJ),?_];rw[ae];refine#[_,rfl,a,_,rfl,.inl #[SqL.of TJ,fun p hp=>`iG']];have kb:=cn.same u7 `fx';have lI:=FnAt.same `fx' sK;have sF:=cw.same lF `fx';refine jW B (M:=Sx) ET (fun _ t=>pJ t (cs.map (· +1))) `bw' (s:=cs) (pm:=`jr') rfl #[p,rfl,aq] lI ?_ ?_ `aR' trivial `mt `mt (yZ cs) (fun i t _ sE=>#[hX `l5' fun x hx=>?_,fun x t' hm=>?_]) `bO' fun H' r G m s' qe hK hG=>?_
  ·show 1;refine g7 AI (`n8' g [] rfl rfl rfl `BT `BT (show ∀x∈_,(aw oO).names.lookup x=_ by decide+kernel)) `Ty `j' fun A outer s H vs Q E hr ⟨i,v,t,e,ht,uj,_,q⟩=>?_;subst e;obtain⟨sb,rfl,hs⟩:=ht;have Zo:t.length=cs.length:=by
    have:=re uj;rw[ae] at this;exact this
   refine⟨_,aG (aY (jN (own:=[("x",2)]) rfl AI.nd (jc `IO X3.nRange (aa (dq eu `IO X3.nLen cY `aN') aB)) (di `IO) (fun _ _ _ _ _=>cp (i:=2) AI.nd rfl `Cl)
    (fun _ _ _ _ _=>jA (bb (fq (`nW' (pv 1) (pv 2) `Ch) aC)))
    (fun _ _ _ _ _=>eP (aa (pv 2) (aa (`of' (`of' (`ol' (pv 1) lU (im (pv 2))) (eP (aa (cJ u0 (`nW' (pv 1) (pv 2) `Ch) aC) aB))) (`ol' (pv 1) (im `mx') lU)) aB))))),?_⟩
   refine#[_,rfl,sb,_,rfl,.inr (iX.of hs),?_];rw[ae];refine#[_,rfl,(rg `mt).1,(rg `mt).2,fun D hD=>O2 (R:=RM Sx fun x=>(x,t.set x (t.getD x 0 - 1))) (p:=fun x=>decide (0<t.getD x 0)) (lo:=0) (n:=t.length) j9 hD (cO `mt) rfl (bL _) `cu' fun H' ys s' nh hp=>?_]
   ·have hx:x<t.length:=by omega
    have lI:∀(H':Hp),aM H H'->iX K H' sb (t.map nV):=fun H' s'=>iX.of (s' _ _ hs);have CN:Oi (t.map nV) (x:Int)=some (nV (t.getD x 0)):=bx `nK';refine#[rfl,_,rfl,_,rfl,sb,_,_,_,rfl,rfl,lI _ s2,CN,_,_,rfl,rfl,_,rfl,az `A' fun e=>?_]
    ·show 147;have e':=af e;refine#[_,rfl,Kn (K:=K) (i:=1) (ix:=2) (v:=t.getD x 0 - 1) rfl rfl (s2 _ _ hs) hx `mt (fun H3 Q3 s3 q3=>#[_,rfl,_,rfl,sb,_,_,_,rfl,rfl,lI _ `gf',CN,_,_,rfl,rfl,?_]) fun H3 p s3 hp=>`iJ']
     ·show Q3 (V.int (((t.getD x 0:Nat):Int) - ((1:Nat):Int))) H3;rw[vk e'];exact q3
     ·have sb':=aM.new hb (o:=.tup [nV x,.ref p]);exact tk e _ _ (s3.trans sb') #[b,.ref p,rfl,aq,p,rfl,sb' _ _ hp]
    ·show 147;show 75
   ·show 28;rw[<-de];rfl
  ·show 1;exact .all fun us hl=>match us,hl with| [_,_],_=>rfl
  ·have h3:=aL.mp (aO.mp hx).1;have:=re sE;rw[ae] at this;omega
  ·show 21;have h3:=aL.mp (aO.mp hy).1;cases e;refine wC sE ?_;have:=Gp sE x h3;omega
  ·refine bG (qt nd h) (bG (Kx cs) ?_);exact bG (g9 `KK h2) `KK
  ·exact iY h1 h2 H' r G m `bF' `dv' `c5' hK #[hG.1,hG.2.1,hG.2.2.1,fun r hr=>by rw[hG.2.2.2 r hr];exact LG hr]
end
section
variable {KA:rs} {fB fA:ak} {fdB fdA:aH}
abbrev lr:du:=my 20
abbrev iS:List `ap':=[(lQ (eG lr 0),"pairings.<locals>.moves")]
def AB (KA:rs) (T:ak):Sp:=fun vs H Q _=>∃(n:Nat) (pa:ak) (parts:List (List Nat)),vs=[nV n,.ref pa]/\ul H pa parts/\parts.length=n/\n<=7/\(∀l∈parts,l.Nodup/\∀x∈l,x<n)/\cw H T iS/\
 ∀(H':Hp) (r:ak) (G:List (List (List Nat))) (m:Nat),cn T H H'->cw H' T iS->H r=Option.none->KA H' r n n 1 G m->KG n n (fun r=>gY (rL n parts) `ca' 0 `j8' r) G m->Q `bd' H'
def yQ:bY ["n","partners","moves"] `gR' (aw lr):=`dl
def pY:eR ["place","asked","n","partners","free","x"] ["place","asked"] `gR' (aw (eG lr 0)):=`ld
def RY {H:Hp} {a:ak} {cs:List `at'} (h:ul H a cs) {i:Nat} (hi:i<cs.length):∃(as:List ak) (b:ak),H a=some `aq'/\as[i]? =some b/\H b=some (.lst ((cs.getD i []).map nV)):=by
 obtain⟨as,h1,h2⟩:=h;have hl:=bH h2;obtain⟨c,hc,hb⟩:=fE h2 (i:=i) (a:=as[i]) (ao `mt);refine#[as,as[i],h1,ao `mt,?_];rw[D7 hc];exact hb
def Pk {H H':Hp} {T a:ak} {cs:List `at'} {defs:List `ap'} (h:ul H a cs) (t:cw H T defs) (k:cn T H H'):ul H' a cs:=by
 obtain⟨ps,hp,_⟩:=t;obtain⟨as,h1,h2⟩:=h;show 140
def Aq {l:List Nat} {i a b:Nat} (h:i<l.length):l.getD i a=l.getD i b:=by
 rw[cQ h,cQ h]
def IF {a b:Nat}:decide ((a:Int)<=(b:Int))=decide (a<=b):=b5.mpr `F'
def mN {a b:Nat}:decide `mq'=decide (a=b):=b5.mpr `F'
def p8 {n:Nat} (h:n<=7):(n+1)^n<rJ:=by
 have h1:(n+1)^n<=8^n:=Nat.pow_le_pow_left `mt n;have h2:8^n<=8^7:=g9 `KK h;exact bG (aU h1 h2) `KK
def Py {n v i:Nat} (h:i<n):(replicate n v).getD i 0=v:=by
 rw[cQ (by rw[bo];exact h),mE]
def FJ {f c T:ak} {fd:aH} (F:ox K "pairings" "pairings" lr f fd c T) (B:B5 KA P w K mg fB fA fdB fdA) (X3:Txt3 K mg):bT P w K mg base dj 6 f fd `gR' (AB KA T):=by
 refine F.ok yQ `ST `B'
 ·obtain⟨n,pa,parts,rfl,_⟩:=h;rfl
 ·obtain⟨n,pa,parts,rfl,hL,Bg,h1,hpr,hT,iY⟩:=h;refine⟨_,am (jt (i:=2) (c:=c) (P:=T) (defs:=iS) (qual:="pairings.<locals>.moves") rfl F.ck X3.blt `IO `BT `BT rfl rfl rfl (show ∀y∈(aw (eG lr 0)).names,y.2= .free->(aw lr).names.lookup y.1=some .cell\/(aw lr).names.lookup y.1=some .free by decide+kernel) yQ.nd rfl `Cl)
   (aG (aY (`nY' B.okT hr `aS' `IO B.gB B.kB B.bB b9
    (aa (pv 0) (aa (pv 0) (aa aC (aa (cJ (r:=Fg K) yz (eP `aM') (pv 0)) (aa (pv 2) (aa (`n3' `IO B.gA rfl) aB))))))))),?_⟩
  refine#[hT,fun fm fd H1 yG u7 lF sK lW=>#[_,rfl,_,rfl,_,rfl,by show 1<=sizeLine;decide,fun p0 GX=>`jt']];have s0:=aM.new GX (o:=.tup [nV n]);refine yj (K:=K) aq (aU h1 `KK) fun p Hp sp hp=>`iG'
  have s1:=s0.trans sp;have kb:=cn.same u7 s1;have lI:=FnAt.same s1 sK;have sF:=cw.same lF s1;have hL2:=ul.same (Pk hL hT u7) s1;refine uv B (M:=Sx) (rL n parts) (fun _ t=>pJ t (replicate n (n+1))) (fun H=>ul H pa parts) (s:=replicate n n) (pm:=["place","asked"]) rfl #[p,rfl,by rw[l5];exact hp] lI ?_ ?_ (fun _ _ s z=>ul.same z s) hL2 `mt `mt (Ca (iJ n) n) (fun i t hi sE=>?_) `bO' fun H' r G m s' qe hK hG=>?_
  ·show 1;refine g7 pY (fD (fvs:=[nV n,.ref pa]) g [0,1] rfl rfl rfl `BT `BT (show ∀x∈_,(aw lr).names.lookup x=_ by decide+kernel)) `Ty `j' fun A outer s H vs Q E hr ⟨i,v,t,e,ht,⟨GM,uj⟩,⟨_,hC⟩,q⟩=>?_;subst e;obtain⟨sb,rfl,hs⟩:=ht;have Zo:t.length=n:=by
    have:=re uj;rw[bo] at this;exact this
   have CN:∀x,x<n->Oi (t.map nV) (x:Int)=some (nV (t.getD x 0)):=fun x hx=>bx (by rw[aR,ao `mt,cQ `mt];rfl);refine⟨_,am (cC (bb (v0 (bz ee (pv 1) (pv 0) `Ch) (pv 2))) (aG (aY (db (aa (eP (aa (bz ee (pv 1) (pv 0) `Ch) `aN')) aB)))) br)
    (am (`ok' rfl pY.nd rfl rfl `dU' (iF (bz bi (pv 3) (pv 0) `Ch)) (di `IO) (fun _ _ _ _ _=>cp (i:=5) pY.nd rfl `Cl)
     (fun _ _ _ _ _=>jA (Qg (bb (sO (pv 5) (pv 0))) (Kg (bb (da (`nW' (pv 1) (pv 5) `Ch) (pv 2))))).pt) `gt')
    (aG (aY (`om' rfl pY.nd `hS' (di `IO) (fun _ _ _ _ _=>cp (i:=5) pY.nd rfl `Cl) `aw'
     (fun _ _ _ _ _=>eP (aa (pv 5) (aa (`of' (`of' (`ol' (pv 1) lU (im (pv 5))) (eP `aM')) (`ol' (pv 1) (im (cJ gx (pv 5) aC)) lU)) aB))))))),?_⟩
   have XI:t.getD i n=t.getD i 0:=Aq `mt;refine#[_,rfl,_,rfl,sb,_,_,_,rfl,rfl,iX.of hs,CN i GM,_,rfl,_,_,rfl,rfl,_,rfl,az `A' fun e=>?_]
   ·show 129;have e:=af e;refine#[_,rfl,_,rfl,sb,_,_,_,rfl,rfl,iX.of hs,CN i GM,_,rfl,by show 2<=sizeLine;decide,fun b hb=>`iH'];have sB:aM H (bO H b (.tup [nV (t.getD i 0),.ref sb])):=aM.new hb;have sA:=aM.put sB (sB.free ha) (o:=.lst [.ref b]);refine q _ a sA (sB.free ha) #[[b],aq,?_];unfold rL;rw[XI,aD e];refine .cons #[.ref sb,?_,sb,rfl,sA _ _ hs] .nil;rw[aZ (a9 aq ha)];exact aq
   ·show 129;have e:=aj e;obtain⟨as,pb,Nt,K1,QH⟩:=RY hC (i:=i) `mt;show 130;have fY:(parts.getD i []).length<=n:=j2 pz jB;refine#[_,rfl,_,rfl,pa,_,_,_,rfl,rfl,SqL.of Nt,bx (by rw[aR,K1];rfl),pb,rfl,#[_,SqL.of QH],fun D hD=>O9 (R:=RN) (p:=fun x=>decide (i<=x)&&decide `ll') ww QH hD (cO `mt) `bp' fun H5 ys s5 nh hp=>?_]
    ·have UJ:=jB x hx;refine#[rfl,_,rfl,_,rfl,_,_,rfl,rfl,_,rfl,az (fun e1=>?_) fun e1=>?_]
     ·show 210;refine#[_,rfl,_,rfl,sb,_,_,_,rfl,rfl,iX.of (s4 _ _ hs),CN x UJ,_,rfl,_,_,rfl,rfl,_,rfl,az (fun e2=>?_) fun e2=>?_]
      ·show 127;exact#[_,rfl,tk (by show(decide (i<=x)&&decide `ll')=_;rw[e1,Aq (b:=0) `mt,e2];rfl) _ _ `M' rfl]
      ·show 127;exact sk (by show(decide (i<=x)&&decide `ll')=_;rw[e1,Aq (b:=0) `mt,e2];rfl) _ `M'
     ·show 210;refine az `dI' fun _=>sk (by show(decide (i<=x)&&decide `ll')=_;rw[e1];rfl) _ `M'
    ·rw[kU hp] at nh;refine#[_,rfl,D,rfl,#[_,SqL.of nh],fun D2 yd=>O9 (R:=RM Sx fun x=>(x,t.set x i)) (p:=fun _=>true) j9 nh yd (cO (aU (fc ..) `mt)) (fun x hx H6 NX s6 sk tk=>?_) fun H7 zs s7 hD7 hp7=>?_]
     ·have UJ:=jB x (aO.mp hx).1;refine#[rfl,_,rfl,Kn (K:=K) (i:=1) (ix:=5) (v:=i) rfl rfl (s6 _ _ (s5 _ _ hs)) `mt `mt (fun H8 Q8 s8 q8=>#[_,rfl,q8]) fun H8 p8 s8 hp8=>`iJ'];have sB:=aM.new hb (o:=.tup [nV x,.ref p8]);exact tk rfl _ _ (s8.trans sB) #[b,.ref p8,rfl,aq,p8,rfl,sB _ _ hp8]
     ·refine q H7 D2 (s5.trans s7) (s5.free yd) (nb hD7 hp7 ?_);unfold rL;rw[ik,XI,au e]
  ·show 1;exact .all fun us hl=>match us,hl with| [_,_],_=>rfl
  ·have Zo:t.length=n:=by
    have:=re sE;rw[bo] at this;exact this
   unfold rL;by_cases e:t.getD i n<n
   ·rw[aD e];refine#[#[by simp,fun y hy=>?_],fun x t' hm=>?_]
    ·cases cT.mp hy;exact e
    ·cases cT.mp hm;exact sE
   ·rw[au e];show 130;refine#[hX (pz.filter _) fun x hx=>jB x (aO.mp hx).1,fun x t' hm=>?_];show 91;refine wC sE ?_;rw[Py (jB x (aO.mp hy).1)];omega
  ·refine bG (qt nd h) ?_;rw[Kz];exact p8 h1
  ·exact iY H' r G m `bF' `dv' `c5' hK hG
end
section
def RL {α:Type} (g:α->List Nat) (D:ak) (H:Hp) (v:V) (x:α):Prop:=∃b,v= .ref b/\b≠D/\H b=some (.lst ((g x).map nV))
def Pf {α:Type} {g:α->List Nat} {D:ak}:uU D (RL g D):=fun _ _ _ _ _ ⟨b,e,hb,h⟩ _ k=>#[b,e,hb,k b _ h hb]
def xA {α:Type} {g:α->List Nat} {D:ak} {H:Hp}:∀{ys:List V} {l:List α},Paired (RL g D H) ys l->∃as:List ak,ys=as.map V.ref/\Paired `hr' as (l.map g)
 |_,_,.nil=>#[[],rfl,.nil]
 |_,_,.cons ⟨b,e,_,h⟩ t=>by
  obtain⟨as,e2,q⟩:=xA t;exact#[b::as,by rw[bw,<-e2,e],.cons h q]
def JJ {α:Type} {g:α->List Nat} {D:ak} {H:Hp} {ys:List V} {l:List α} (h:H D=some `cC') (p:Paired (RL g D H) ys l):ul H D (l.map g):=by
 obtain⟨as,rfl,q⟩:=xA p;exact#[as,h,q]
def Ea {K:ai} {H:Hp} {a:ak} {aW:List Nat} {Q:VK} (h:H a=some `cW') (q:∀mx:Nat,(∀m∈aW,m<=mx)->(mx∈aW\/aW=[]/\mx=0)->Q (nV mx) H):Fe K `eH' [.int 0] H Q:=by
 refine#[a,aW.map fun(n:Nat)=>(n:Int),0,rfl,rfl,by rw[<-yV];exact SqL.of h,fun z=>?_,fun m hm Uw=>?_]
 ·have z:=jw.mp z;exact q 0 (fun m hm=>by rw[z] at hm;cases hm) (.inr #[z,rfl])
 ·obtain⟨k,hk,rfl⟩:=aV.mp hm;exact q k `gO' (.inl hk)
def sW {n mx:Nat}:decide ((1:Int)*2^(n:Int).toNat<=(mx:Int))=decide (2^n<=mx):=by
 rw[Kk];exact IF
def acr {a b x p:Nat}:decide (Builtin.bitAnd (Builtin.bitAnd ((a:Int)/2^(x:Int).toNat) ((b:Int)/2^(p:Int).toNat)) 1=1)=(a.testBit x&&b.testBit p):=by
 rw[D5,D5,KI,bitAnd_m1,gw,gw,<-Bool.decide_and];refine b5.mpr ?_;have:= @Nat.and_mod_two_eq_one (a/2^x) (b/2^p);rw[<-this];omega
structure Prs (KA:rs) (P:bN) (w:cV) (K:ai) (mg:Str->Option aA) (fP:ak) (fdP:aH) (T:ak):Prop where
 g:mg "pairings"=some (.ref fP)
 k:keepIn K (.ref fP)=true
 b:fV K fdP `gR' []
 ok:∀base,bT P w K mg base dj 6 fP fdP `gR' (AB KA T)
section
variable {KA:rs} {fB fA:ak} {fdB fdA:aH}
abbrev sj:du:=my 21
def uz (KA:rs) (T:ak):Sp:=fun vs H Q _=>∃n:Nat,vs=[nV n]/\cw H T iS/\(7<n->Q .non H)/\(n<=7->ut KA T iS H Q n n `i1')
def qD:bY ["n","place"] ["n"] (aw sj):=`dl
def yT {f T fP:ak} {fd fdP:aH} (F:nv K "involutions" "involutions" sj f fd) (R:Prs KA P w K mg fP fdP T) (X3:Txt3 K mg):bT P w K mg base dj 7 f fd ["n"] (uz KA T):=by
 refine F.ok qD `ST `LE
 ·obtain⟨n,rfl,_⟩:=h;rfl
 ·obtain⟨n,rfl,hT,k8,iY⟩:=h;refine⟨_,am (cC `b2' `b1' br)
   (aG (aY (`nU' (R.ok base) hr `IO R.g R.k R.b .nil b9 (aa (pv 0) (aa (jN (own:=[("place",1)]) rfl qD.nd (jc `IO X3.nRange `aM') (di `IO) (fun _ _ _ _ _=>cp (i:=1) qD.nd rfl `Cl) `aw'
    (fun _ _ _ _ _=>OU rfl `IO X3.nList `IO X3.nRange `aM')) aB))))),?_⟩
  rw[show L2.start ["n","place"] [nV n]=[some (nV n),none] from rfl];show 27
  refine#[_,rfl,_,rfl,_,rfl,(rg `mt).1,(rg `mt).2,fun D hD=>U7 (R:=RL (fun _=>List.range n) D) (p:=fun _=>true) (lo:=0) (n:=n) Pf hD (cO `mt) rfl (bL n) `k7' fun H' ys s' nh hp=>?_]
  ·refine#[rfl,_,rfl,n,rfl,eo (cO `mt),fun l hl=>?_];refine tk rfl _ _ `lM' #[l,rfl,fun z=>?_,aq];obtain⟨cR,wo⟩:=yd;rw[z,wo] at hl;cases hl
  ·rw[ik] at hp;have hL:=JJ nh hp;refine#[n,D,_,rfl,hL,by rw[ae,jR],h1,fun l hl=>?_,cw.same hT s',fun H3 r G m kb ME hr3 hK hG=>?_]
   ·obtain⟨_,_,rfl⟩:=aV.mp hl;exact#[cM,fun x hx=>aL.mp hx]
   ·refine iY h1 H3 r G m `kn' ME (s'.free hr3) hK `ke';rw[hG.2.2.2 r hr];refine AY (fun i x hi=>?_) hr;rw[cQ (by rw[ae,jR];exact hi),gL,aL]
abbrev A2:du:=my 23
def alF (aW:List Nat) (i:Nat):List Nat:=((List.range aW.length).filter fun x=>(aW.getD i 0).testBit x&&(aW.getD x 0).testBit i).filter fun x=>decide (x≠i)
def B9:Sp:=fun vs H Q _=>∃(a:ak) (aW:List Nat) (i:Nat),vs=[.ref a,nV i]/\H a=some `cW'/\i<aW.length/\aW.length<=20/\∀(H':Hp) (l:ak),aM H H'->H l=Option.none->H' l=some (.lst ((alF aW i).map nV))->Q `cp' H'
def rj:bY ["masks","place","both_ways","x"] `gk' (aw A2):=`dl
def wg {aW:List Nat} {x:Nat} (hx:x<aW.length):Oi (aW.map nV) (x:Int)=some (nV (aW.getD x 0)):=bx `nK'
def Ii {f:ak} {fd:aH} (F:nv K "allowed_partners" "allowed_partners" A2 f fd) (X3:Txt3 K mg):bT P w K mg base dj 1 f fd `gk' B9:=by
 refine F.ok rj `ST `LE
 ·obtain⟨a,aW,i,rfl,_⟩:=h;rfl
 ·obtain⟨a,aW,i,rfl,ha,hi,hm,q⟩:=h;refine⟨_,am (rh (i:=2) (own:=`lp') rfl rj.nd rfl rfl `dU' (jc `IO X3.nRange (aa (dq eu `IO X3.nLen cY `aM') aB)) (di `IO) (fun _ _ _ _ _=>cp (i:=3) rj.nd rfl `Cl)
   (fun _ _ _ _ _=>jA (bb (da (cJ xa (cJ xa (cJ yY (`nV' (pv 0) (pv 1) `Ch) (pv 3)) (cJ yY (`nV' (pv 0) (pv 3) `Ch) (pv 1))) aC) aC))) (fun _ _ _ _ _=>pv 3))
   (aG (aY (`oc' rfl rj.nd (iF (pv 2)) (di `IO) (fun _ _ _ _ _=>cp (i:=3) rj.nd rfl `Cl) (fun _ _ _ _ _=>jA (bb (l8 (pv 3) (pv 1)))) (fun _ _ _ _ _=>pv 3)))),?_⟩
  refine `cX';rw[ae];refine#[_,rfl,(rg `mt).1,(rg `mt).2,fun D hD=>O2 (p:=fun x=>(aW.getD i 0).testBit x&&(aW.getD x 0).testBit i) (lo:=0) ww hD (cO `mt) rfl (bL _) `cu' fun H' ys s' nh hp=>?_]
  ·have hx:x<aW.length:=by omega
   have e0:`E' (Builtin.bitAnd (Builtin.bitAnd ((aW.getD i 0:Nat)/2^(x:Int).toNat:Int) ((aW.getD x 0:Nat)/2^(i:Int).toNat:Int)) 1) 1=((aW.getD i 0).testBit x&&(aW.getD x 0).testBit i):=acr;refine#[rfl,_,rfl,_,rfl,a,_,_,_,rfl,rfl,SqL.of `hU',wg hi,_,rfl,_,_,rfl,rfl,fi x,_,rfl,_,rfl,a,_,_,_,rfl,rfl,SqL.of `hU',wg hx,_,rfl,_,_,rfl,rfl,fi i,_,_,rfl,rfl,_,_,rfl,rfl,_,_,rfl,rfl,_,rfl,az `A' fun e=>?_]
   ·exact#[_,rfl,tk (e0.symm.trans e) _ _ `M' rfl]
   ·exact sk (e0.symm.trans e) _ `M'
  ·rw[kU hp,<-de] at nh;refine#[_,rfl,D,rfl,#[_,SqL.of nh],fun D2 yd=>O9 (p:=fun x=>decide (x≠i)) ww nh yd (cO (aU (fc ..) (by rw[bv];omega))) `bp' fun H5 zs s5 GI KL=>?_]
   ·show 200
    ·show 60;show 137
    ·show 60;show 75
   ·refine q H5 D2 (s'.trans s5) (s'.free yd) ?_;rw[GI,kU KL];rfl
structure Als (P:bN) (w:cV) (K:ai) (mg:Str->Option aA) (fL:ak) (fdL:aH):Prop where
 g:mg "allowed_partners"=some (.ref fL)
 k:keepIn K (.ref fL)=true
 b:fV K fdL `gk' []
 ok:∀base,bT P w K mg base dj 1 fL fdL `gk' B9
abbrev uZ:du:=my 22
def xy (KA:rs) (T:ak):Sp:=fun vs H Q _=>∃(a:ak) (aW:List Nat),vs=`eH'/\H a=some `cW'/\cw H T iS/\`gT'/\(aW.length<=7->(∀m∈aW,m<2^aW.length)->ut KA T iS H Q aW.length aW.length (.matchings aW aW.length))
def qp:bY ["masks","n","place"] `gC' (aw uZ):=`dl
def DZ {f T fP fL:ak} {fd fdP fdL:aH} (F:nv K "matchings" "matchings" uZ f fd) (R:Prs KA P w K mg fP fdP T) (L:Als P w K mg fL fdL) (X3:Txt3 K mg):bT P w K mg base dj 7 f fd `gC' (xy KA T):=by
 refine F.ok qp `ST `LE
 ·obtain⟨a,aW,rfl,_⟩:=h;rfl
 ·obtain⟨a,aW,rfl,ha,hT,k8,iY⟩:=h;refine⟨_,am (`oo' qp.nd rfl `Cl (dq eu `IO X3.nLen cY `aM'))
   (am (cC (jv `dr' (j7 (bb (sO (D3 rfl `IO X3.nMax `aM' (D1 aC G6)) (cJ uR aC (pv 1)))))).pt `b1' br)
   (aG (aY (`nU' (R.ok base) hr `IO R.g R.k R.b .nil b9 (aa (pv 1) (aa (jN (own:=[("place",2)]) rfl qp.nd (jc `IO X3.nRange `aN') (di `IO) (fun _ _ _ _ _=>cp (i:=2) qp.nd rfl `Cl) `aw'
    (fun _ _ _ _ _=>bZ (dvs:=[]) (ds:=[]) (CX:=dj) (E:=E0) (L.ok base) (hr.mono `KK) `IO L.g L.k L.b .nil b9 (aa (pv 0) `aC'))) aB)))))),?_⟩
  rw[show L2.start ["masks","n","place"] `eH'=[some `bu',none,none] from rfl];show 55
  refine#[_,rfl,Ea (K:=K) ha fun mx QY GM=>#[_,rfl,_,_,rfl,rfl,yN `mt,_,_,rfl,rfl,_,rfl,az `A' fun e2=>?_]]
  ·show 52;refine k8 (.inr ?_);rcases GM with z| ⟨z,z2⟩
   ·exact#[mx,z,e]
   ·have:=lS aW.length;omega
  ·show 39
   refine#[_,rfl,_,rfl,_,rfl,(rg `mt).1,(rg `mt).2,fun D hD=>U7 (R:=RL (fun i=>alF aW i) D) (p:=fun _=>true) (lo:=0) (n:=aW.length) Pf hD (cO `mt) rfl (bL _) `k7' fun H' ys s' nh hp=>?_]
   ·refine#[rfl,_,rfl,_,rfl,a,aW,x,rfl,s2 _ _ ha,by omega,by omega,fun H3 l s3 hl BG=>?_];refine tk rfl _ _ s3 #[l,rfl,fun z=>?_,BG];obtain⟨cR,wo⟩:=yd;rw[z,wo] at hl;cases hl
   ·rw[ik] at hp;have hL:=JJ nh hp;refine#[aW.length,D,_,rfl,hL,by rw[ae,jR],h1,fun l hl=>?_,cw.same hT s',fun H3 r G m kb ME hr3 hK hG=>?_]
    ·obtain⟨i,_,rfl⟩:=aV.mp hl;exact#[(cM.filter _).filter _,fun x hx=>aL.mp (aO.mp (aO.mp hx).1).1]
    ·refine iY h1 h2 H3 r G m `kn' ME (s'.free hr3) hK `ke';rw[hG.2.2.2 r hr];refine Dg (fun i x hi=>?_) hr;rw[cQ (by rw[ae,jR];exact hi),gL,List.getElem_range',cE,qh];unfold alF Wqarao.bit;rw[aO,aO,aL,bK,aX];exact#[fun⟨⟨a,b,c⟩,d⟩=>#[a,d,b,c],fun⟨a,d,b,c⟩=>#[#[a,b,c],d]]
abbrev jk:du:=my 19
abbrev lq:List `ap':=[(lQ (eG jk 2),"extensions.<locals>.moves")]
def vM (KA:rs) (T:ak):Sp:=fun vs H Q _=>∃(a:ak) (aW:List Nat),vs=`eH'/\H a=some `cW'/\cw H T lq/\`gT'/\(aW.length<=7->(∀m∈aW,m<2^aW.length)->ut KA T lq H Q aW.length aW.length (.extensions aW aW.length))
def se:bY ["masks","n","moves"] `gC' (aw jk):=`dl
def r9:eR `lW' `js' ["masks","n"] (aw (eG jk 2)):=`ld
def As {m u:Nat}:decide (Builtin.bitAnd (m:Int) (u:Int)=(m:Int))=decide (m&&& u=m):=by
 rw[KI];show 190
def Bx {f c T fU:ak} {fd fdU:aH} (F:ox K "extensions" "extensions" jk f fd c T) (B:B5 KA P w K mg fB fA fdB fdA) (U:Uns P w K mg fU fdU) (X3:Txt3 K mg):bT P w K mg base dj 6 f fd `gC' (vM KA T):=by
 refine F.ok se `ST `B'
 ·obtain⟨a,aW,rfl,_⟩:=h;rfl
 ·obtain⟨a,aW,rfl,ha,hT,k8,iY⟩:=h;refine⟨_,am (`oo' se.nd rfl `b0' (dq eu `IO X3.nLen cY `aM'))
   (am (cC (jv `dr' (j7 (bb (sO (D3 rfl `IO X3.nMax `aM' (D1 aC G6)) (cJ uR aC (pv 1)))))).pt `b1' br)
   (am (jt (i:=2) (defs:=lq) (qual:="extensions.<locals>.moves") rfl F.ck X3.blt `IO `BT `BT rfl rfl rfl (show ∀y∈(aw (eG jk 2)).names,y.2= .free->(aw jk).names.lookup y.1=some .cell\/(aw jk).names.lookup y.1=some .free by decide+kernel) se.nd rfl `Cl)
   (aG (aY (gp B.okI hr `aS' `IO B.gB B.kB B.bB b9
    (aa (pv 1) (aa (pv 1) (aa aC (aa aC (aa (pv 2) (aa (`n3' `IO B.gA rfl) aB))))))))))),?_⟩
  show 55
  refine#[_,rfl,Ea ha fun mx QY GM=>#[_,rfl,_,_,rfl,rfl,yN `mt,_,_,rfl,rfl,_,rfl,az `A' fun e2=>?_]]
  ·show 52;refine k8 (.inr ?_);rcases GM with z| ⟨z,z2⟩
   ·exact#[mx,z,e]
   ·have:=lS aW.length;omega
  show 39
  refine `ak';have CY:a≠T:=by
   show 78
  have TJ:=kb _ _ ha CY;refine jW B (TV aW) (fun _ t=>t<2^aW.length) (fun H=>H a=some `cW') (pm:=`js') rfl rfl lI ?_ ?_ `je' TJ `mt `mt (lS _) `a9' `bO' fun H' r G m s' qe hK hG=>?_
  ·obtain⟨doc,pm,cdv,ct,rfl⟩:=lW;refine g7 r9 (fD (fvs:=[.ref a,nV aW.length]) g [0,1] rfl rfl rfl `BT `BT (show ∀x∈_,(aw jk).names.lookup x=_ by decide+kernel)) `Ty `j' fun A outer s H vs Q E hr ⟨i,v,t,e,ht,uj,⟨_,hC⟩,q⟩=>?_;subst e;have ht:=ht;subst ht;refine⟨_,aG (aY (jN (own:=[("x",4)]) rfl r9.nd (iF (bZ (U.ok base) (hr.mono `KK) `IO U.g U.k U.b .nil b9 (aa (pv 3) `aN'))) (di `IO) (fun _ _ _ _ _=>cp (i:=4) r9.nd rfl `Cl)
    (fun _ _ _ _ _=>jA (bb (da (cJ xa (`nV' (pv 2) (pv 4) `Ch) (pv 1)) (`nV' (pv 2) (pv 4) `Ch)))) (fun _ _ _ _ _=>eP (aa (pv 4) (aa (cJ P6 (pv 1) (cJ uR aC (pv 4))) aB))))),?_⟩
   rw[show L2.start `lW' ([nV i,nV t]++[.ref a,nV aW.length])=[some (nV i),some (nV t),some `bu',some (nV aW.length),none] from rfl];refine#[_,rfl,_,rfl,aW.length,t,rfl,by omega,fun H3 l s3 hl BG=>#[l,rfl,`kJ',fun D hD=>O9 (R:=RM C9 fun x=>(x,t|||2^x)) (p:=fun x=>decide `gi') j9 BG hD (cO (by have:=DE (n:=aW.length) (u:=t);omega)) `bp' fun H' ys s' nh hp=>?_]]
   ·have UJ:=vK hx;have haH:=s4 _ _ (s3 _ _ hC);refine#[rfl,_,rfl,_,rfl,a,_,_,_,rfl,rfl,SqL.of haH,wg UJ,_,rfl,_,_,rfl,rfl,_,rfl,_,rfl,a,_,_,_,rfl,rfl,SqL.of haH,wg UJ,_,_,rfl,rfl,_,rfl,az `A' fun e=>?_]
    ·rw[show `E' _ _=decide `gi' from As] at e;show 34
    ·rw[show `E' _ _=decide `gi' from As] at e;show 75
   ·show 227
  ·show 1;exact .all fun us hl=>match us,hl with| [_,_],_=>rfl
  ·show 21;have:=vK (aO.mp hy).1;cases e;exact N6 sE this
  ·exact oy (aU (j2 nd h) (p7 h1))
  ·exact iY h1 h2 H' r G m `bF' `fW' `fq' hK #[hG.1,hG.2.1,hG.2.2.1,fun r hr=>by rw[hG.2.2.2 r hr];exact By h2 hr]
end
end
section
def nE.tools {α:Type} {R:Hp->V->α->Prop} {p:α->Bool} {l:List α} {H1 H2:Hp} {D:ak} {i:Nat} {x:α} (I:nE R p l H1 D i H2) (hR:uU D R) (hD:H1 D=Option.none) (hz:l.length<sizeLine) (hx:l[i]? =some x):
 (p x=false->∀H4,aM H2 H4->nE R p l H1 D (i+1) H4)/\(p x=true->∀H5 y,aM H2 H5->R H5 y x->∃cR,H5 D=some `cM'/\cR.length<sizeLine/\nE R p l H1 D (i+1) `au'):=by
 obtain⟨s,ys,yd,hp⟩:=I;refine#[fun e H4 s4=>`mH',fun e H5 y s5 r=>`hJ']
 ·show 186
 ·show 229
 ·rw[aZ (a9 q hD)];exact s5 _ _ (s _ _ q)
 ·have tk:∀b o,H5 b=some o->b≠D->(bO H5 D (.lst (ys++[y]))) b=some o:=fun b o q hb=>by
   rw[aZ hb];exact q
  show 142
def Dh (l:List Nat):List `cq':=(List.range l.length).map fun i=>(i,l.getD i 0)
def lcE {K:ai} {R:Hp->V->Nat×Nat->Prop} {p:Nat×Nat->Bool} {l:List Nat} {a:ak} {H1:Hp} {D:ak} {g:TG} {tt:TT} {te:TE} {vs:List Nat} {σ:L2.St} {Qd:Hp->Prop} (hR:uy R) (ha:H1 a=some (.lst `bR')) (hD:H1 D=Option.none) (hz:l.length<sizeLine)
 (t:∀(i:Nat),i<l.length->∀(H2:Hp) (T:ak) (NX:Hp->Prop),aM H1 H2->H2 T=some (.tup [nV i,nV `gQ'])->(p (i,l.getD i 0)=false->∀H4,aM H2 H4->NX H4)->
  (p (i,l.getD i 0)=true->∀H5 y,aM H2 H5->R H5 y (i,l.getD i 0)->∃cR,H5 D=some `cM'/\cR.length<sizeLine/\NX `au')->
  g (.ref T) `dJ' H2 fun σ2 H3=>ie σ2 vs=ie σ vs/\tt σ2 H3 fun b H4=>if b=true then te σ2 H4 fun y H5=>∃cR,H5 D=some `cM'/\cR.length<sizeLine/\NX `au' else NX H4)
 (hd:∀(H:Hp) (ys:List V),aM H1 H->H D=some `cC'->Paired (R H) ys ((Dh l).filter p)->Qd H):TN (VM K a) g tt te vs σ H1 D Qd:=by
 have NL:(Dh l).length=l.length:=by
  unfold Dh;rw[ae,bv]
 refine `dm';rintro i m H ⟨rfl,hi,I⟩;have hs:SqL K H a `bR':=SqL.of `nf';by_cases jB:i<l.length
 ·have hx:(Dh l)[i]? =some (i,l.getD i 0):=by
   unfold Dh;rw[aR,eZ jB];rfl
  refine .inr #[#[_,nV `gQ',hs,?_],nE R p (Dh l) H1 D (i+1),fun H' I'=>`jG',fun v H' y=>?_]
  ·rw[aR,ao jB,cQ jB];rfl
  ·show 106;rw[aR,ao jB] at Bf;have Bf:=aP Bf;show 54;have I':nE R p (Dh l) H1 D i (bO H T `aj'):=`bV'
   show 26;rw[aq,<-Bf,cQ jB]
 ·obtain rfl:i=l.length:=by omega
  refine .inl #[#[_,hs,by rw[ae];exact ax _],?_];rw[<-NL] at I;show 48
section
variable {KA:rs} {fB fA:ak} {fdB fdA:aH}
abbrev mo:du:=my 58
abbrev rG:List `ap':=[(lQ (eG mo 3),"walks.<locals>.moves"),((nc (eG mo 4)).1,"walks.<locals>.<lambda>")]
def JT (KA:rs) (T:ak):Sp:=fun vs H Q _=>∃(n st en:Nat) (a:ak) (aW:List Nat),vs=[nV n,nV st,nV en,.ref a]/\H a=some `cW'/\cw H T rG/\
 (16<n\/aW.length<1\/8<aW.length\/aW.length<st\/aW.length<en\/(∃m∈aW,2^aW.length<=m)->Q .non H)/\
 (n<=16->1<=aW.length->aW.length<=8->st<=aW.length->en<=aW.length->(∀m∈aW,m<2^aW.length)->ut KA T rG H Q (n+1) aW.length (.walks aW aW.length n st en))
def C2:bY ["n","start","end","masks","nodes","moves"] `dl' (aw mo):=`dl
def vZ:eR ["place","node","start","masks","nodes","x"] `fu' ["start","masks","nodes"] (aw (eG mo 3)):=`ld
def Rv:eR ["node","end","nodes"] `jq' ["end","nodes"] ((nc (eG mo 4)).2):=`ld
def U4 {K:ai} {H:Hp} {a:ak} {aW:List Nat} {Q:VK} (h:H a=some `cW') (hn:0<aW.length) (q:∀mx:Nat,(∀m∈aW,m<=mx)->mx∈aW->Q (nV mx) H):VW K `eH' H Q:=by
 refine#[a,aW.map fun(n:Nat)=>(n:Int),rfl,by rw[<-yV];exact SqL.of h,by rw[ae];exact hn,fun m hm Uw=>?_];obtain⟨k,hk,rfl⟩:=aV.mp hm;exact q k `gO' hk
def Aa {p q:Prop} [Decidable p] [Decidable q]:decide (p\/q)=(decide p||decide q):=by
 by_cases h1:p<;>by_cases h2:q<;>simp[h1,h2]
def ON {f c T:ak} {fd:aH} (F:ox K "walks" "walks" mo f fd c T) (B:B5 KA P w K mg fB fA fdB fdA) (X3:Txt3 K mg):bT P w K mg base dj 6 f fd `dl' (JT KA T):=by
 refine F.ok C2 `ST `B'
 ·obtain⟨n,st,en,a,aW,rfl,_⟩:=h;rfl
 ·obtain⟨n,st,en,a,aW,rfl,ha,hT,k8,iY⟩:=h;refine⟨_,am (`n9' C2.nd rfl `b0' (dq eu `IO X3.nLen cY `aY'))
   (am (cC (jv `b2' (jv (bb (v0 (pv 4) aC)) (jv (bb (fq (pv 4) aC)) (jv (bb (fq (pv 1) (pv 4))) (j7 (bb (fq (pv 2) (pv 4)))))))).pt `b1' br)
   (am (cC (bb (sO (dq (Va rfl) `IO X3.nMax `BT `aY') (cJ uR aC (pv 4)))) `b1' br)
   (am (jt (i:=5) (c:=c) (P:=T) (defs:=rG) (qual:="walks.<locals>.moves") rfl F.ck X3.blt `IO `BT `BT rfl rfl rfl (show ∀y∈(aw (eG mo 3)).names,y.2= .free->(aw mo).names.lookup y.1=some .cell\/(aw mo).names.lookup y.1=some .free by decide+kernel) C2.nd rfl `Cl)
   (aG (aY (`nY' B.okI hr `aS' `IO B.gB B.kB B.bB b9
    (aa (cJ gx (pv 0) aC) (aa (pv 4) (aa aC (aa aC (aa (pv 5) (aa (wV (c:=c) (P:=T) (defs:=rG) (qual:="walks.<locals>.<lambda>") rfl F.ck X3.blt `IO `BT `BT rfl (show ∀y∈(nc (eG mo 4)).2.names,y.2= .free->(aw mo).names.lookup y.1=some .cell\/(aw mo).names.lookup y.1=some .free by decide+kernel)) aB)))))))))))),?_⟩
  refine `cX';rw[ae];refine#[_,rfl,n,16,rfl,rfl,_,rfl,az `LT fun e1=>#[_,rfl,aW.length,1,rfl,rfl,_,rfl,az `LT fun e2=>#[_,rfl,aW.length,8,rfl,rfl,_,rfl,az `LT fun e3=>?_]]];refine#[_,rfl,_,rfl,st,aW.length,rfl,rfl,_,rfl,az `LT fun e4=>#[_,rfl,_,rfl,en,aW.length,rfl,rfl,_,rfl,az `ac' fun e5=>?_]];have h1:n<=16:=by have:=aj e1;omega
  have h2:1<=aW.length:=by have:=aj e2;omega
  have h3:aW.length<=8:=by have:=aj e3;omega
  have h4:st<=aW.length:=by have:=aj e4;omega
  have h5:en<=aW.length:=by have:=aj e5;omega
  refine#[_,rfl,U4 (K:=K) ha `mt fun mx QY GM=>#[_,rfl,_,_,rfl,rfl,yN `mt,_,_,rfl,rfl,_,rfl,az `A' fun e6=>?_]]
  ·show 52;exact k8 (.inr (.inr (.inr (.inr (.inr #[mx,GM,e])))))
  rw[show `aE' (mx:Int) `bs'=decide `eU' from sW] at e6;have e6:=aj e6;have h6:∀m∈aW,m<2^aW.length:=fun m hm=>by have:=QY m hm;omega
  refine#[hT,fun fm fd H1 yG u7 lF sK lW=>#[_,rfl,_,_,rfl,rfl,_,rfl,_,rfl,lF,fun fe sm H2 QL Em sF rB qK base g=>?_]];show 12;have CY:a≠T:=by
   show 78
  have ha2:=kb _ _ ha CY;refine pi (tQ aW st) (fun s=>decide (en=aW.length\/en=s)) (fun _ t=>t<aW.length) (fun H=>H a=some `cW') `bw' (pm:=`fu') (pe:=`jq') (n:=n+1) (z:=1) (s:=0) rfl rfl lI rB ?_ ?_ ?_ ?_ `je' `aR' ha2 trivial `mt `mt `KK `mt (fun i t _ sE=>?_) (fun i l _ nd h=>oy (aU (j2 nd h) `mt)) fun H' r G m s' qe hK hG=>?_
  ·obtain⟨doc,pm,cdv,ct,rfl⟩:=lW;refine g7 vZ (fD (fvs:=[nV st,.ref a,nV aW.length]) g [1,3,4] rfl rfl rfl `BT `BT (show ∀x∈_,(aw mo).names.lookup x=_ by decide+kernel)) `Ty `j' fun A outer s H vs Q E hr ⟨i,v,t,e,ht,uj,⟨_,hC⟩,q⟩=>?_;subst e;have ht:v=nV t:=ht;subst ht;refine⟨_,am (cC `ah' (aG (aY (`om' rfl vZ.nd (jc `IO X3.nRange `cO') (di `IO) (fun _ _ _ _ _=>cp (i:=5) vZ.nd rfl `Cl) (fun _ _ _ _ _=>jA (jv (bb (da (pv 2) (pv 4))) (j7 (bb (da (pv 2) (pv 5))))).pt) (fun _ _ _ _ _=>eP (aa (pv 5) `cP'))))) br)
    (aG (aY (`om' rfl vZ.nd (jc `IO X3.nRange `cO') (di `IO) (fun _ _ _ _ _=>cp (i:=5) vZ.nd rfl `Cl) (fun _ _ _ _ _=>jA (bb (da (cJ xa (cJ yY (`nV' (pv 3) (pv 1) `Ch) (pv 5)) aC) aC))) (fun _ _ _ _ _=>eP (aa (pv 5) `cP'))))),?_⟩
   refine#[_,rfl,i,0,rfl,rfl,_,rfl,az `A' fun e=>?_]
   ·rw[show `E' (i:Int) 0=decide (i=0) from mN] at e;have e:=af e;refine#[_,rfl,_,rfl,(rg `mt).1,(rg `mt).2,fun D hD=>O2 (R:=RM C9 fun x=>(x,x)) (p:=fun x=>decide (st=aW.length\/st=x)) (lo:=0) j9 hD (cO `mt) rfl (bL _) `cu' fun H' ys s' nh hp=>?_]
    ·refine#[rfl,_,rfl,_,rfl,_,_,rfl,rfl,_,rfl,az (fun e1=>az `jB' fun z=>nomatch z) fun e1=>#[_,rfl,_,rfl,_,_,rfl,rfl,_,rfl,az (fun e2=>?_) fun e2=>?_]]
     ·show 146;exact#[_,rfl,_,rfl,by show 2<=sizeLine;decide,fun b hb=>tk (by show decide (_\/_)=true;rw[Aa,e1];rfl) _ _ `fP' `mm']
     ·show 209;exact#[_,rfl,_,rfl,by show 2<=sizeLine;decide,fun b hb=>tk (by show decide (_\/_)=true;rw[Aa,e2,Bool.or_true]) _ _ `fP' `mm']
     ·show 146;show 209;exact sk (by show decide (_\/_)=false;rw[Aa,e1,e2];rfl) _ `M'
    ·show 28;unfold tQ;rw[aD e,<-de]
   ·rw[show `E' (i:Int) 0=decide (i=0) from mN] at e;have e:=aj e;refine#[_,rfl,_,rfl,(rg `mt).1,(rg `mt).2,fun D hD=>O2 (R:=RM C9 fun x=>(x,x)) (p:=fun x=>(aW.getD t 0).testBit x) (lo:=0) j9 hD (cO `mt) rfl (bL _) `cu' fun H' ys s' nh hp=>?_]
    ·refine#[rfl,_,rfl,_,rfl,a,_,_,_,rfl,rfl,SqL.of (s2 _ _ hC),wg uj,_,rfl,_,_,rfl,rfl,fi x,_,_,rfl,rfl,_,_,rfl,rfl,_,rfl,az `A' fun e=>?_]
     ·show 237;exact `ao'
     ·show 237;show 75
    ·show 28;unfold tQ;rw[au e,<-de]
  ·show 1;exact .all fun us hl=>match us,hl with| [_,_],_=>rfl
  ·show 7;refine wG Rv (fD (fvs:=[nV en,nV aW.length]) g [2,4] rfl rfl rfl `BT `BT (show ∀x∈_,(aw mo).names.lookup x=_ by decide+kernel)) `aV' `a2' fun A outer s H vs Q E hr ⟨v,t,e,ht,uj,_,q⟩=>?_;show 15;have q:Q (.bl (decide (en=aW.length\/en=t))) H:=q H `M';refine#[_,T5 (mn (da (pv 1) (pv 2))) (Dl (mn (da (pv 1) (pv 0)))),_,rfl,_,rfl,en,aW.length,rfl,rfl,_,rfl,az (fun e1=>?_) fun e1=>#[_,rfl,_,rfl,en,t,rfl,rfl,?_]]
   ·show 145;rw[Aa,e1] at q;exact q
   ·show 145;rw[Aa,e1,Bool.false_or,<-mN] at q;exact q
  ·show 7;exact .all fun us hl=>match us,hl with| [_],_=>rfl
  ·unfold tQ;by_cases e:i=0
   ·rw[aD e];refine `bX';show 91;exact aL.mp (aO.mp hy).1
   ·rw[au e];refine `bX';show 91;exact aL.mp (aO.mp hy).1
  ·exact iY h1 h2 h3 h4 h5 h6 H' r G m `bF' `dv' `c5' hK #[hG.1,hG.2.1,hG.2.2.1,fun r hr=>by rw[hG.2.2.2 r hr];exact Pg hr]
end
end
section
section
variable {KA:rs} {fB fA:ak} {fdB fdA:aH}
abbrev gf:du:=my 57
abbrev kS:List `ap':=[(lQ (eG gf 2),"automaton.<locals>.moves"),((nc (eG gf 3)).1,"automaton.<locals>.<lambda>")]
def xL (KA:rs) (T:ak):Sp:=fun vs H Q _=>∃(st k ac n:Nat) (a:ak) (fo:List Nat),vs=`gm'/\H a=some (.lst (fo.map nV))/\cw H T kS/\
 (st<1\/8<st\/6<k\/16<n\/2^st<=ac\/fo.length≠st*k\/(∃m∈fo,255<m)->Q .non H)/\
 (1<=st->st<=8->k<=6->n<=16->ac<2^st->fo.length=st*k->(∀m∈fo,m<=255)->ut KA T kS H Q n k (.automaton fo st k ac n))
def xK:bY ["states","k","accepting","n","following","moves"] `bn' (aw gf):=`dl
def nX:eR ["place","state","k","following","states","row","x","behind"] `cb' ["k","following","states"] (aw (eG gf 2)):=`ld
def E9:eR ["state","accepting"] `bM' ["accepting"] ((nc (eG gf 3)).2):=`ld
def VD {a b:Nat} (h:a<=1000):OY (a:Int) (b:Int):=by
 have:(1000:Int)<2^64:=by decide
 exact .inl #[by omega,by omega]
def yk {l:List Nat} {x y:Nat} (h:x+y<=l.length):ou `bR' `lk' (some ((x+y:Nat):Int))=((l.drop x).take y).map nV:=by
 unfold ou;rw[HT.sIx_nat,HT.sIx_nat,ae,show min x l.length=x by omega,show min (x+y) l.length=x+y by omega,show x+y - x=y by omega,lM,lN]
def B2 {l:List Nat} (q:Nat->Bool):((Dh l).filter fun z=>q z.2)=((List.range l.length).filter fun i=>q `gQ').map fun i=>(i,l.getD i 0):=by
 unfold Dh;rw[filter_map];rfl
def QA {l:List Nat} {x y i d:Nat} (h:x+y<=l.length) (hi:i<y):((l.drop x).take y).getD i 0=l.getD (x+i) d:=by
 rw[ay,ay,eX hi,l6,ao `mt];rfl
def Db {f c T:ak} {fd:aH} (F:ox K "automaton" "automaton" gf f fd c T) (B:B5 KA P w K mg fB fA fdB fdA) (X3:Txt3 K mg):bT P w K mg base dj 6 f fd `bn' (xL KA T):=by
 refine F.ok xK `ST `B'
 ·obtain⟨st,k,ac,n,a,fo,rfl,_⟩:=h;rfl
 ·obtain⟨st,k,ac,n,a,fo,rfl,ha,hT,k8,iY⟩:=h;refine⟨_,am (cC (jv (bb (v0 (pv 0) aC)) (jv `b2' (jv `dr' (j7 (bb (fq (pv 3) aC)))))).pt `b1' br)
   (am (cC (jv (bb (sO (pv 2) (cJ uR aC (pv 0)))) (jv (bb (l8 (dq eu `IO X3.nLen cY `cO') (cJ AU (pv 0) (pv 1)))) (j7 (bb (fq (D3 rfl `IO X3.nMax `cO' (D1 aC G6)) aC))))).pt `b1' br)
   (am (jt (i:=5) (c:=c) (P:=T) (defs:=kS) (qual:="automaton.<locals>.moves") rfl F.ck X3.blt `IO `BT `BT rfl rfl rfl (show ∀y∈(aw (eG gf 2)).names,y.2= .free->(aw gf).names.lookup y.1=some .cell\/(aw gf).names.lookup y.1=some .free by decide+kernel) xK.nd rfl `Cl)
   (aG (aY (`nY' B.okI hr `aS' `IO B.gB B.kB B.bB b9
    (aa (pv 3) (aa (pv 1) (aa aC (aa aC (aa (pv 5) (aa (wV (c:=c) (P:=T) (defs:=kS) (qual:="automaton.<locals>.<lambda>") rfl F.ck X3.blt `IO `BT `BT rfl (show ∀y∈(nc (eG gf 3)).2.names,y.2= .free->(aw gf).names.lookup y.1=some .cell\/(aw gf).names.lookup y.1=some .free by decide+kernel)) aB))))))))))),?_⟩
  refine#[_,rfl,st,1,rfl,rfl,_,rfl,az `LT fun e1=>#[_,rfl,st,8,rfl,rfl,_,rfl,az `LT fun e2=>#[_,rfl,k,6,rfl,rfl,_,rfl,az `LT fun e3=>#[_,rfl,n,16,rfl,rfl,_,rfl,az `ac' fun e4=>?_]]]];have h1:1<=st:=by have:=aj e1;omega
  have h2:st<=8:=by have:=aj e2;omega
  have h3:k<=6:=by have:=aj e3;omega
  have h4:n<=16:=by have:=aj e4;omega
  refine#[_,rfl,_,rfl,_,_,rfl,rfl,yN `mt,_,_,rfl,rfl,_,rfl,az `ct' fun e5=>?_]
  ·rw[show `aE' (ac:Int) ((1:Int)*2^(st:Int).toNat)=decide (2^st<=ac) from sW] at e;have e:=af e;exact k8 (.inr (.inr (.inr (.inr (.inl e)))))
  rw[show `aE' (ac:Int) ((1:Int)*2^(st:Int).toNat)=decide (2^st<=ac) from sW] at e5;have h5:ac<2^st:=by have:=aj e5;omega
  refine#[_,rfl,a,_,rfl,.inl (SqL.of ha),_,rfl,_,rfl,_,_,rfl,rfl,VD `mt,fo.length,((st*k:Nat):Int),by rw[ae],rfl,_,rfl,az `ct' fun e6=>?_]
  ·rw[show `K' (fo.length:Int) ((st*k:Nat):Int)=decide (fo.length≠st*k) from lD] at e;exact k8 (.inr (.inr (.inr (.inr (.inr (.inl (af e)))))))
  rw[show `K' (fo.length:Int) ((st*k:Nat):Int)=decide (fo.length≠st*k) from lD] at e6;have h6:fo.length=st*k:=ku.mp (aj e6);refine#[_,rfl,Ea (K:=K) ha fun mx QY GM=>#[mx,255,rfl,rfl,_,rfl,az `A' fun e7=>?_]]
  ·rw[show `aJ' (mx:Int) 255=decide (255<mx) from lE] at e;have e:=af e;rcases GM with z| ⟨_,z⟩
   ·exact k8 (.inr (.inr (.inr (.inr (.inr (.inr #[mx,z,e]))))))
   ·omega
  rw[show `aJ' (mx:Int) 255=decide (255<mx) from lE] at e7;have e7:=aj e7;have h7:∀m∈fo,m<=255:=fun m hm=>by have:=QY m hm;omega
  refine `dc';show 12;have CY:a≠T:=by
   show 78
  have ha2:=kb _ _ ha CY;refine pi (sX fo st k) (fun s=>ac.testBit s) (fun _ t=>t<st) (fun H=>H a=some (.lst (fo.map nV))) `bw' (pm:=`cb') (pe:=`bM') (n:=n) (L:=k) (z:=1) (s:=0) rfl rfl lI rB ?_ ?_ ?_ ?_ `je' `aR' ha2 trivial `mt `mt `KK `mt (fun i t _ sE=>`bX') (fun i l _ nd h=>oy (aU (j2 nd h) `mt)) fun H' r G m s' qe hK hG=>?_
  ·show 1;refine g7 nX (fD (fvs:=[nV k,.ref a,nV st]) g [1,4,0] rfl rfl rfl `BT `BT (show ∀x∈_,(aw gf).names.lookup x=_ by decide+kernel)) `Ty `j' fun A outer s H vs Q E hr ⟨i,v,t,e,ht,uj,⟨_,hC⟩,q⟩=>?_;show 15;have uj:t<st:=uj;have Nf:t*k+k<=fo.length:=by
    rw[h6];have:=nQ k (show t+1<=st from uj);rw[oJ] at this;exact this
   refine⟨_,am (`n7' nX.nd rfl `Cl (iB nJ (pv 3) (im (cJ AU (pv 1) (pv 2))) (im (cJ gx (cJ AU (pv 1) (pv 2)) (pv 2)))))
    (aG (aY (jN (own:=[("x",6),("behind",7)]) (g:=Og K 2 (vN (ss 6) (vN (ss 7) Pc))) rfl nX.nd (vj `IO X3.nEnum `cP') (di `IO) (fun _ _ _ _ _=>uE rfl (jm (cp (i:=6) nX.nd rfl `Cl) (jm (cp (i:=7) nX.nd rfl `Cl) r6)))
     (fun _ _ _ _ _=>jA (bb (v0 (pv 7) (pv 4)))) (fun _ _ _ _ _=>eP (aa (pv 6) `gz'))))),?_⟩
   have htk:t*k<=1000:=aU (hJ (show t<=8 by omega) h3) `KK;refine#[_,rfl,_,rfl,_,rfl,_,_,rfl,rfl,VD `mt,((t*k:Nat):Int),rfl,_,rfl,_,rfl,_,_,rfl,rfl,VD `mt,_,rfl,((t*k:Nat):Int),k,rfl,rfl,((t*k+k:Nat):Int),rfl,a,_,rfl,SqL.of hC,fun pr hpr=>?_];rw[yk Nf];have sr:aM H (bO H pr `cn'):=aM.new hpr;have er:(bO H pr `cn') pr=some `cn':=aq;generalize bO H pr `cn'=H3 at sr er⊢
   have NC:((fo.drop (t*k)).take k).length=k:=by rw[be,b6];omega
   refine#[_,rfl,pr,_,rfl,SqL.of er,fun D hD=>lcE (R:=RM C9 fun z=>z) (p:=fun z=>decide (z.2<st)) j9 er hD (by rw[NC];exact cO `mt) `ff' fun H' ys s' nh hp=>?_]
   ·refine#[TT,_,rfl,iX.of Bi,rfl,_,_,rfl,_,_,rfl,rfl,rfl,_,rfl,_,rfl,_,_,rfl,rfl,_,rfl,az `A' fun e=>?_]
    ·rw[show `cf' _ (st:Int)=decide `jI' from lE] at e;exact `ao'
    ·rw[show `cf' _ (st:Int)=decide `jI' from lE] at e;show 75
   ·refine q H' D (sr.trans s') (sr.free hD) `cV';rw[B2 (fun y=>decide (y<st)),NC,oN];unfold sX;have e1:∀x,x∈List.range k->((fo.drop (t*k)).take k).getD x 0=fo.getD (t*k+x) st:=fun x hx=>QA Nf (aL.mp hx);rw[kr (q:=fun x=>decide (fo.getD (t*k+x) st<st)) fun x hx=>by rw[e1 x hx]];exact dE fun x hx=>by rw[e1 x (aO.mp hx).1]
  ·show 1;exact .all fun us hl=>match us,hl with| [_,_],_=>rfl
  ·show 7;refine wG E9 (fD (fvs:=[nV ac]) g [2] rfl rfl rfl `BT `BT (show ∀x∈_,(aw gf).names.lookup x=_ by decide+kernel)) `aV' `a2' fun A outer s H vs Q E hr ⟨v,t,e,ht,uj,_,q⟩=>?_;show 15;have q:Q (.bl (ac.testBit t)) H:=q H `M';rw[<-C7] at q;exact#[_,mn (da (cJ xa (cJ yY (pv 1) (pv 0)) aC) aC),_,rfl,_,rfl,_,_,rfl,rfl,fi t,_,_,rfl,rfl,_,_,rfl,rfl,q]
  ·show 7;exact .all fun us hl=>match us,hl with| [_],_=>rfl
  ·show 91;exact af (aO.mp hy).2
  ·exact iY h1 h2 h3 h4 h5 h6 h7 H' r G m `bF' `dv' `c5' hK #[hG.1,hG.2.1,hG.2.2.1,fun r hr=>by rw[hG.2.2.2 r hr];exact Ds hr]
end
end
section
variable {κ:Type} [BEq κ] [LawfulBEq κ] {mv:Nat->κ->List (Nat×κ)} {en:κ->Bool} {L:Nat} {s:κ} {Iv:Nat->κ->Prop} {n:Nat}
def tD (h0:Iv 0 s) (hI:∀i t,i<n->Iv i t->oY L `hB'/\∀x t',(x,t')∈mv i t->Iv (i+1) t'):∀i,i<=n->∀t∈fX mv L s i,Iv i t
 |0,_,t,h=>by
  cases cT.mp h;exact h0
 |i+1,hi,t,h=>by
  obtain⟨u,hu,x,hx⟩:=RR.stepF_mem.mp h;exact(hI i u `mt (tD h0 hI i `mt u hu)).2 x t hx
def qo:∀i,(fX mv L s i).Nodup
 |0=>ig ..
 |i+1=>Fj
def Bk (mv:Nat->κ->List `ax') (en:κ->Bool) (L:Nat) (s:κ) (n i:Nat):List Nat×List `Id:=vQ L (qz en `l9') ((kF mv L s n).drop `iD')
def me (mv:Nat->κ->List `ax') (L:Nat) (s:κ) (k:Nat):List `at':=(dm (mv k) L (fX mv L s k)).2
def rN {i:Nat} (hi:i<=n):(kF mv L s n).drop `iD'=(range' `iD' i).map (me mv L s):=by
 unfold kF;rw[<-lN,de,List.drop_range',cE,Nat.mul_one,show n - `iD'=i by omega];rfl
def OJ (h0:Iv 0 s) (hI:∀i t,i<n->Iv i t->oY L `hB'/\∀x t',(x,t')∈mv i t->Iv (i+1) t') {i:Nat} (hi:i<=n):iG L (Bk mv en L s n i).2/\(Bk mv en L s n i).2.length=i/\(Bk mv en L s n i).1.length=(fX mv L s `iD').length+1/\
 (∀m∈(Bk mv en L s n i).1,m<cj (Bk mv en L s n i).2)/\∀(j:Nat) (t:κ),(fX mv L s `iD')[j]? =some t->∀r:dh,r.length=i->cx (Bk mv en L s n i).2 ((Bk mv en L s n i).1.getD (j+1) 0) r=gY mv en `iD' t r:=by
 have h:=O5 mv en L Iv i `iD' (fX mv L s `iD') (tD h0 hI `iD' `mt) (fun k t h1 h2=>hI k t `mt);rw[Fo,show n - i+i=n by omega] at h;have e:(vQ L (qz en `l9') ((range' `iD' i).map (me mv L s)))=Bk mv en L s n i:=by
  unfold Bk;rw[rN hi]
 have e':((range' `iD' i).map fun i=>(dm (mv i) L `f6').2)=(range' `iD' i).map (me mv L s):=rfl;rw[e'] at h;simp only at h;rw[e] at h;exact#[h.1,h.2.1,h.2.2.2.1,h.2.2.2.2.1,h.2.2.2.2.2]
def J9 {i:Nat} (hi:i<n):Bk mv en L s n (i+1)=((fj L (Bk mv en L s n i).1 (me mv L s `gH')).2,(fj L (Bk mv en L s n i).1 (me mv L s `gH')).1::(Bk mv en L s n i).2):=by
 have e:(kF mv L s n).drop (n - (i+1))=me mv L s `gH'::(kF mv L s n).drop `iD':=by
  rw[rN hi,rN (eo hi),jE,bw,show n - (i+1)=n - 1 - i by omega,show n - 1 - i+1=n - i by omega]
 unfold Bk;rw[e];rfl
def BQ (h0:Iv 0 s) (hI:∀i t,i<n->Iv i t->oY L `hB'/\∀x t',(x,t')∈mv i t->Iv (i+1) t') {k:Nat} (hk:k<n):(me mv L s k).length=(fX mv L s k).length/\∀c∈me mv L s k,c.length=L/\∀y∈c,y< (fX mv L s (k+1)).length+1:=by
 have fY:(me mv L s k).length=(fX mv L s k).length:=wZ;refine#[fY,fun c hc=>?_];obtain⟨j,hj,rfl⟩:=cg.mp hc;obtain⟨ch,e1,e2,e3⟩:=Gf (fun t ht=>(hI k t hk (tD h0 hI k (eo hk) t ht)).1) j (fX mv L s k)[j] (ao `mt);have e4:(me mv L s k)[j]? =some ch:=e1;rw[ao hj] at e4;cases e4;refine#[e2,fun y hy=>?_];obtain⟨x,hx,rfl⟩:=cg.mp hy;have:=e3 x;rw[cQ hx] at this;rw[this];cases e:(mv k (fX mv L s k)[j]).lookup x with
 |none=>exact jQ _
 |some b=>
  refine qO (eV.mpr ?_);exact RR.stepF_mem.mpr #[_,jG ..,x,pZ e]
end
def Px (G:List `Id):List `Id:=G++[[[],[]]]
def MS (L:Nat):List `Id->List `at'
 | []=>[iy L []]
 |ly::rest=>iy L `gd'::MS L rest
def FV (L:Nat) (G:List `Id):∃r,MS L G=iy L G::r:=by
 cases G with
 |nil=>exact#[[],rfl]
 |cons ly rest=>exact `dQ'
section
variable {X:Cx} {CX:yx} {k:Nat} {E:XK} {x:Str} {p pos:Pos} {e:Expr} {es:List Expr} {t:TA}
def N0 (X:Cx) (CX:yx) (k i:Nat) (E:XK) (t:TA):TE:=fun σ H Q=>∃f,σ[i]? =some (some `bA')/\
 t σ H fun vs H1=>B6 X.K H1 f/\∃fd ps sp,bT X.prog X.w X.K X.mg X.base CX k f fd ps sp/\fV X.K fd ps []/\sp vs H1 Q E
def Fs {i:Nat} (hr:Room k X.A) (hx:pR CX X E) (ha:PA X `dH' t) (hN:X.N[i]? =some x:=by rfl) (hv:Uc X.env.scope x:=by first|exact Or.inl rfl|exact Or.inr `Cl|exact Or.inr `b0')
 (Ex:`az'=false:=by decide) (xr:`dy'=false:=by decide) (he:starEach `dH' X.env=(false,eval e X.env)::starEach es X.env:=by rfl) (sI:(backTo pos `a0').any (·.1)=false:=by rfl):
 PE X `aG' (N0 X CX k i E t):=by
 show 3;obtain⟨f,hi,h⟩:=h;refine dX (iH (Ho (i:=i) hN hv Ex xr pins s σ H `nN' I #[_,hi,rfl,rfl]) fun g s0 ⟨v,H',I0,r0,e1,e2⟩=>?_);subst e1 e2;have r0:g= .ref f:=r0;subst r0;have h2:=ha pos pins s0 σ _ _ I0 h;rw[he] at h2⊢
 refine callWith_of (first:=[]) (by show((false||(backTo pos `a0').any (·.1))||false)=false;rw[sI];rfl) (fun h hp=>hp)
  (kP (iH h2 fun us s1 ⟨vs,H1,I1,r,hc,fd,ps,sp,F,hb,q⟩=>#[?_,?_]))
 ·rcases hc with⟨fo,u,yB,h1,h2⟩|hk
  ·have hg:=(I1.hok f _ h1).1;obtain⟨oc,od,dt,sl⟩:=fo;have h2:dt= .func yB:=h2;subst h2;exact PySem.W.keeps_F _ #[oc,od,yB,sl,hg]
  ·exact PySem.W.keeps_K hk _ I1.kIn
 ·exact DY (dvs:=[]) (ds:=[]) F hr hb .nil hx I1 r (by rw[bU];exact q)
end
def Jt {K:ai} {a:ak} {xs:List V} {n:Nat} {g:TG} {tb:TS} {D:Dt} {σ:L2.St} {H:Hp} (hn:n=xs.length) (Pv:Nat->L2.St->Hp->Prop) (h0:Pv 0 σ H) (hl:∀i σ H,i<=n->Pv i σ H->SqL K H a xs)
 (hs:∀i x σ H,i<n->xs[n - 1 - i]? =some x->Pv i σ H->g x σ H fun σ2 H2=>tb {D with nx:=Pv (i+1),ct:=Pv (i+1),bk:=D.nx} σ2 H2) (hd:∀σ H,Pv n σ H->D.nx σ H):
 ∃W:Nat->Nat->L2.St->Hp->Prop,(∃m,W 0 m σ H)/\∀i m σ H,W i m σ H->
  ((Itv K a n).stop i H/\D.nx σ H)\/((Itv K a n).go i H/\∃N:L2.St->Hp->Prop,(∀σ' H',N σ' H'->∃m',m'<m/\W (i+1) m' σ' H')/\∀x H',(Itv K a n).yld i H x H'->g x σ H' fun σ2 H2=>tb {D with nx:=N,ct:=N,bk:=D.nx} σ2 H2):=by
 refine#[fun i m σ H=>m=n - i/\i<=n/\Pv i σ H,#[n,rfl,aN _,h0],?_];show 95;have q:=hl i σ H hi p;by_cases jB:i<n
 ·refine .inr #[#[jB,xs,xs[n - 1 - i],q,ao `mt],Pv (i+1),fun σ' H' p'=>`dN',fun x H' y=>?_];obtain⟨e,y⟩:=y;subst e;exact hs i x σ _ jB (y xs q) p
 ·obtain rfl:i=n:=by omega
  exact .inl `ml'
abbrev yA (n L z m:Nat) (la wa:ak) (tot:Nat):List (Str×V):=[("length",nV n),("letters",nV L),("size",nV z),("root",nV m),("layers",.ref la),("ways",.ref wa),("total",nV tot)]
structure oQ (K:ai) (C:ak):Prop where
 cl:OZ K C
 f1:j6 K C "length"
 f2:j6 K C "letters"
 f3:j6 K C "size"
 f4:j6 K C "root"
 f5:j6 K C "layers"
 f6:j6 K C "ways"
 f7:j6 K C "total"
def VE (C:ak):Sp:=fun vs H Q _=>∃(x dx la wa w0:ak) (n L z m:Nat) (rest:List V) (ws:List Nat),vs=[.ref x,nV n,nV L,nV z,nV m,.ref la,.ref wa]/\H x=some (.ins C dx [])/\H wa=some (.lst (.ref w0::rest))/\H w0=some `er'/\m<ws.length/\
 Q .non (bO H x (.ins C dx (yA n L z m la wa (ws.getD m 0))))
abbrev DF:List Str:=["self","length","letters","size","root","layers","ways"]
def Vr:bY DF DF (aw Ju):=`dl
def qA {H:Hp} {a:ak} {o o':HO}:bO `jb' a o'=bO H a o':=by
 funext b
 by_cases h:b=a
 ·rw[h,aq,aq]
 ·rw[aZ h,aZ h,aZ h]
def fy {f:Str} {v:V} {k:Nat}:∀{fs:List (Str×V)},fs.length<=k->(rT f v fs).length<=k+1:=by
 intro fs
 induction fs generalizing k with
 |nil=>intro _;exact nq (aN _)
 |cons p fs ih=>
  intro h;obtain⟨g,x⟩:=p;show(if g=f then(g,v)::fs else(g,x)::rT f v fs).length<=k+1;have h:fs.length+1<=k:=h
  split
  ·show fs.length+1<=k+1;omega
  ·have:=ih (k:=k - 1) `mt;show(rT f v fs).length+1<=k+1;omega
def SJ {f C:ak} {fd:aH} (F:nv K "__init__" "Kind.__init__" Ju f fd) (KC:oQ K C):bT P w K mg base dj 1 f fd DF (VE C):=by
 refine F.ok Vr `ST `LE
 ·obtain⟨x,dx,la,wa,w0,n,L,z,m,rest,ws,rfl,_⟩:=h;rfl
 ·obtain⟨x,dx,la,wa,w0,n,L,z,m,rest,ws,rfl,hx,UM,Xp,hm,q⟩:=h;have hxw:wa≠x:=eD UM hx `XL;have aaV:w0≠x:=eD Xp hx `XL;refine⟨_,am (ow (pv 0) (pv 1) rfl) (am (ow (pv 0) (pv 2) rfl) (am (ow (pv 0) (pv 3) rfl) (am (ow (pv 0) (pv 4) rfl) (am (ow (pv 0) (pv 5) rfl) (am (ow (pv 0) (pv 6) rfl)
   (aG (ow (pv 0) (bz bi (bz bi (pv 6) aC `Ch) (pv 4) `Ch) rfl))))))),?_⟩
  refine#[_,rfl,_,rfl,x,C,dx,_,rfl,hx,KC.cl,KC.f1,by decide,?_];refine#[_,rfl,_,rfl,x,C,dx,_,rfl,aq,KC.cl,KC.f2,bG (fy (ax _)) `KK,?_];refine#[_,rfl,_,rfl,x,C,dx,_,rfl,aq,KC.cl,KC.f3,bG `ej' `KK,?_];refine#[_,rfl,_,rfl,x,C,dx,_,rfl,aq,KC.cl,KC.f4,bG (fy `ej') `KK,?_];refine#[_,rfl,_,rfl,x,C,dx,_,rfl,aq,KC.cl,KC.f5,bG (fy (fy `ej')) `KK,?_];refine#[_,rfl,_,rfl,x,C,dx,_,rfl,aq,KC.cl,KC.f6,bG (fy (fy (fy `ej'))) `KK,?_];simp only[qA];have e1:∀o,`nl' wa=some (.lst (.ref w0::rest)):=fun o=>by rw[aZ hxw];exact UM
  have e2:∀o,`nl' w0=some `er':=fun o=>by rw[aZ aaV];exact Xp
  refine#[_,rfl,wa,_,0,.ref w0,rfl,rfl,SqL.of (e1 _),bx (j:=0) rfl,_,rfl,w0,_,m,nV (ws.getD m 0),rfl,rfl,SqL.of (e2 _),bx (by rw[aR,ao hm,cQ hm];rfl),_,rfl,x,C,dx,_,rfl,aq,KC.cl,KC.f7,bG (fy (fy (fy (fy `ej')))) `KK,?_];rw[qA];exact q
def NP:bY `bM' `bM' (aw C4):=`dl
def Ly {f:ak} {fd:aH} (F:nv K "always" "always" C4 f fd):bT P w K mg base dj 3 f fd `bM' `iB':=by
 refine F.ok NP `ST `LE
 ·obtain⟨v,rfl,_⟩:=h;rfl
 ·obtain⟨v,rfl,q⟩:=h;exact#[_,aG (aY ZR),q]
section
def An {H:Hp} {a:ak} {ks:List `at'} {k:Nat} {Q:VK} (h:H a=some (.dT (iV i5 k ks))) (q:∀(l:ak) (bs:List ak),H l=Option.none->Paired `ad' bs ks->Q `cp' (bO H l `aL')):wN `eH' H Q:=by
 refine#[a,rfl,.inr #[_,h,fun l bs hl hp=>q l bs hl ?_]];have:∀(ks:List (List Nat)) (k:Nat) (bs:List ak),Paired `bb' bs (iV i5 k ks)->Paired `ad' bs ks:=by
  intro ks
  induction ks with
  |nil=>
   intro _ bs h;cases h;exact .nil
  |cons c r ih=>
   intro k bs h;cases h with
   |cons h1 h2=>exact .cons (by rw[<-rF];exact h1) (ih (k+1) _ h2)
 exact this ks k bs hp
def pN {α β:Type} {R:α->β->Prop}:∀{l:List α} {m:List β},Paired R l m->(l.zip m).map fst=l/\(l.zip m).map snd=m/\∀p∈l.zip m,R p.1 p.2
 |_,_,.nil=>#[rfl,rfl,fun _ h=>nomatch h]
 |_,_,.cons h t=>by
  obtain⟨e1,e2,e3⟩:=pN t;refine#[by rw[pE,bw,e1],by rw[pE,bw,e2],fun p hp=>?_];rcases bh.mp hp with rfl|hp
  ·exact h
  ·exact e3 p hp
def qx {α β:Type} {R:α->β->Prop} {b:β}:∀{m:List β} {l:List α},Paired R l (m++[b])->∃l' a,l=l'++[a]/\R a b/\Paired R l' m
 | [],_,h=>by
  cases h with
  |cons h1 h2=>
   cases h2;exact#[[],_,rfl,h1,.nil]
 |c::m,_,h=>by
  cases h with
  |cons h1 h2=>
   obtain⟨l',a,rfl,ra,rl⟩:=qx h2;exact#[_::l',a,rfl,ra,.cons h1 rl]
def rE {α β:Type} {R:α->β->Prop}:∀{l:List α} {m:List β},Paired R l m->Paired R l.reverse m.reverse
 |_,_,.nil=>.nil
 |_,_,.cons h t=>by
  rw[fT,fT];exact gH h (rE t)
def B6.same {K:ai} {H H':Hp} {f:ak} (h:B6 K H f) (s:aM H H'):B6 K H' f:=by
 rcases h with⟨fo,u,yB,h1,h2⟩|h
 ·exact .inl #[fo,u,yB,s _ _ h1,h2]
 ·exact .inr h
def yq {κ:Type} [BEq κ] [LawfulBEq κ] {mv:Nat->κ->List `ax'} {en:κ->Bool} {L:Nat} {s:κ} {n:Nat}:Bk mv en L s n 0=(qz en `l9',[]):=by
 unfold Bk;rw[rN (aN n)];rfl
def FG {κ:Type} [BEq κ] [LawfulBEq κ] {mv:Nat->κ->List `ax'} {en:κ->Bool} {L:Nat} {s:κ} {n:Nat} {Iv:Nat->κ->Prop} (h0:Iv 0 s) (hI:∀i t,i<n->Iv i t->oY L `hB'/\∀x t',(x,t')∈mv i t->Iv (i+1) t')
 (hz:∀i (l:List κ),i<=n->l.Nodup->(∀t∈l,Iv i t)->l.length<rJ):∀i,i<=n->∀ly∈(Bk mv en L s n i).2,ly.length<=rJ
 |0,_,ly,h=>by rw[yq] at h;cases h
 |i+1,hi,ly,h=>by
  rw[J9 hi] at h;cases h with
  |head=>
   have h1:(fj L (Bk mv en L s n i).1 (me mv L s `gH')).1.length<=1+(me mv L s `gH').length:=pf _ _ (`bH',[0]);rw[(BQ (mv:=mv) h0 hI `mt).1] at h1;have:=hz `gH' _ `mt (qo _) (tD h0 hI _ `mt);omega
  |tail _ h=>exact FG h0 hI hz i (eo hi) ly h
def NY (ly:List `at') (G:List `Id):(Px (ly::G)).reverse=(Px G).reverse++[ly]:=by
 unfold Px;rw[lh,fT]
def Ox (L:Nat) (ly:List `at') (G:List `Id):(MS L (ly::G)).reverse=(MS L G).reverse++[iy L (ly::G)]:=by
 show(iy L (ly::G)::MS L G).reverse=_;rw[fT]
def Pi {κ:Type} [BEq κ] [LawfulBEq κ] {mv:Nat->κ->List `ax'} {L:Nat} {s:κ} {n k:Nat} (h:k<n):(kF mv L s n)[k]? =some (me mv L s k):=by
 unfold kF;rw[aR,eZ h];rfl
def eO (C:ak):rs:=fun H r n L z G m=>∃(dx la wa:ak) (oA qB:List ak),H r=some (.ins C dx (yA n L z m la wa ((iy L G).getD m 0)))/\H la=some (.lst (oA.map V.ref))/\Paired `dD' oA (Px G)/\
 H wa=some (.lst (qB.map V.ref))/\Paired (fun b (ws:List Nat)=>H b=some `er') qB (MS L G)/\∀ly∈G,ly.length<=rJ
structure Txt4 (K:ai) (mg:Str->Option aA):Prop extends Txt3 K mg where
 nRev:mg "reversed"=none
 endd:∃t,mg "END"=some (.int 1 t)
section
variable {κ:Type} [BEq κ] [LawfulBEq κ]
abbrev KH:List Str:=`aW'
abbrev Dc:List Str:=["length","letters","size","start","moves","ends","reached","steps","names","layers","ways","step","nodes","state"]
def mR:bY Dc KH (aw Ee):=`dl
structure Bls (P:bN) (w:cV) (K:ai) (mg:Str->Option aA) (fR fM fC cK fI:ak) (fdR fdM fdC fdI:aH):Prop where
 gR:mg "reach"=some (.ref fR)
 kR:keepIn K (.ref fR)=true
 bR:fV K fdR `c8' []
 fnR:nv K "reach" "reach" C1 fR fdR
 gM:mg "merge"=some (.ref fM)
 kM:keepIn K (.ref fM)=true
 bM:fV K fdM `a1' []
 fnM:nv K "merge" "merge" uO fM fdM
 gC:mg "count_ways"=some (.ref fC)
 kC:keepIn K (.ref fC)=true
 bC:fV K fdC `fJ' []
 fnC:nv K "count_ways" "count_ways" DD fC fdC
 gK:mg "Kind"=some (.ref cK)
 mK:Mk K cK fI
 bI:fV K fdI DF []
 fnI:nv K "__init__" "Kind.__init__" Ju fI fdI
 cK:oQ K cK
def Gx {f fR fM fC cK fI:ak} {fd fdR fdM fdC fdI:aH} {M:Sk κ} (F:nv K "build" "build" Ee f fd) (S:Bls P w K mg fR fM fC cK fI fdR fdM fdC fdI) (T:Txt4 K mg):bT P w K mg base dj 5 f fd KH (qm (eO cK) P w K mg M base):=by
 refine F.ok mR `ST `LE
 ·obtain⟨mv,en,Iv,C,CE,n,L,z,v,s,fm,fe,fo,u,yB,MH,sm,pm,pe,rfl,_⟩:=h;rfl
 ·obtain⟨mv,en,Iv,C,CE,n,L,z,v,s0,fm,fe,fo,u,yB,MH,sm,pm,pe,rfl,wu,⟨yG,Ut⟩,QL,hF,hB,hFE,hBE,hC,Zb,KR,Na,hn,hL,WC,h0,hI,hzh,k⟩:=h;have hz:=fun i l a b c=>bD (hzh i l a b c) Mr;obtain⟨td,gu⟩:=T.dead;obtain⟨te,Rh⟩:=T.endd;have hu:=ux hr;refine⟨_,(am (`od' mR.nd rfl `Cl (`nU' (Qe (P:=P) (w:=w) (base:=base) (km:=3) (M:=M) (mv:=mv) (Ok:=fun i t=>i<n/\Iv i t) (C:=C) S.fnR T.toTxt2 hC) hr `IO S.gR S.kR S.bR .nil b9 (aa (pv 0) (aa (pv 1) (aa (pv 3) `cO')))))
   (am (bP (i:=7) mR.nd rfl `Cl (bz ee (pv 6) aC `Ch))
   (am (bP (i:=8) mR.nd rfl `Cl (cJ uY (db (aa (`nX' `IO gu ⟨td,rfl⟩) aB)) (jN (own:=[("state",13)]) (te:=tIf (tB (N0 (Gv dj P w K mg base Dc (ofString "build") (aw Ee) f cdv A outer s H E).nox dj 3 5 E0 (sq (oX 13) AQ))) `ho' (tC (.int 0))) rfl mR.nd (iF (bz ee (pv 6) aC `Ch)) (di `IO) (fun _ _ _ _ _=>cp (i:=13) mR.nd rfl `Cl) `aw' (fun _ _ _ _ _=>Am (Ir (Fs (i:=5) (CX:=dj) (k:=3) (E:=E0) (hr.mono `KK) b9 (aa (pv 13) aB))) (bQ (v:=.int 1) `IO Rh ⟨te,rfl⟩) (`nX' `IO gu ⟨td,rfl⟩)))))
   (am (bP (i:=9) mR.nd rfl `Cl (db (aa (db (aa (eP aB) (aa (eP aB) aB))) aB)))
   (am (bP (i:=10) mR.nd rfl `Cl (db (aa (db `hO') aB)))
   (am (mf cD rfl (xu `IO T.nRev `gz') (cp (i:=11) mR.nd rfl `Cl) (am (bP (i:=12) mR.nd rfl `Cl yJ)
   (am (bP (i:=8) mR.nd rfl `Cl (`nU' (QC (P:=P) (w:=w) (base:=base) S.fnM T.toTxt1) (hr.mono `KK) `IO S.gM S.kM S.bM .nil b9 (aa (pv 11) (aa (pv 1) (aa (pv 8) (aa (pv 12) aB))))))
   (am (gZ (nZ bu bX bW gN (pv 9) (aa (mw (si rfl) `IO T.nList boot_list (aa (pv 12) aB)) aB)))
   (aG (gZ (nZ bu bX bW gN (pv 10) (aa (`nU' (OD (P:=P) (w:=w) (base:=base) S.fnC T.toTxt0) (hr.mono `KK) `IO S.gC S.kC S.bC .nil b9 (aa (mw (si rfl) `IO T.nList boot_list (aa (pv 12) aB)) (aa (bz bi (pv 10) `nd' `Ch) aB))) aB))))))))
   (am (gZ (IS bu lw lv uH (pv 9)))
   (am (gZ (IS bu lw lv uH (pv 10)))
   (aG (aY (`n4' S.mK (SJ (P:=P) (w:=w) (base:=base) S.fnI S.cK) (hr.mono `KK) `IO S.gK S.bI .nil b9 (aa (pv 0) (aa (pv 1) (aa (pv 2) (aa (bz bi (pv 8) aC `Ch) (aa (pv 9) (aa (pv 10) aB))))))))))))))))),?_⟩
  rw[show L2.start Dc `b5'=[some (nV n),some (nV L),some (nV z),some v,some (.ref fm),some (.ref fe),none,none,none,none,none,none,none,none] from rfl];have Rj:=tD (mv:=mv) (L:=L) h0 hI;refine#[_,rfl,_,rfl,_,rfl,_,rfl,n,L,v,s0,fm,fo,u,yB,MH,pm,rfl,wu,yG,Ut,hF,hB,KR,hn,hL,fun i hi t ht=>#[#[hi,Rj i (eo hi) t ht],(hI i t hi (Rj i (eo hi) t ht)).1],fun i hi=>hz i _ hi (qo i) (Rj i hi),fun H1 r a b as xs s1 hr1 WR ha Nt hb QH=>?_];refine#[_,rfl,r,_,0,.ref a,rfl,rfl,iX.of WR,rfl,?_];refine `il';have s2:aM H1 (bO H1 p0 `cR'):=aM.new GX;have ep0:(bO H1 p0 `cR') p0=some `cR':=aq;generalize bO H1 p0 `cR'=H2 at s2 ep0⊢
  obtain⟨z1,z2,z3⟩:=pN QH;have NF:H2 b=some (.lst ((xs.zip `k1').map fst)):=by rw[z1];exact s2 _ _ hb
  have S9:(fX mv L s0 n).length<sizeLine:=hz n _ (ax n) (qo n) (Rj n (ax n));have hzl:(xs.zip `k1').length=(fX mv L s0 n).length:=by
   have:=dH List.length z2;rw[ae] at this;exact this
  refine#[_,rfl,r,_,1,.ref b,rfl,rfl,iX.of (s2 _ _ WR),rfl,b,rfl,#[_,SqL.of NF],fun D hD=>O9 (R:=fun _ (v:V) (p:V×κ)=>v=nV (if en p.2=true then 1 else 0)) (p:=fun _=>true) `km' NF hD (by rw[hzl];exact S9) (fun x hx H3 NX s3 sk tk=>?_) fun H3 ys s3 TF X7=>?_]
  ·have hrx:=M.keep (z3 x hx) (ud `gf');have hxm:x.2∈fX mv L s0 n:=by rw[<-z2];exact aV.mpr #[x,hx,rfl]
   refine#[rfl,fe,rfl,_,rfl,QL.same (s1.trans `gf'),sm,pe,_,hFE,hBE,x.1,x.2,rfl,hrx,Rj n (ax n) _ hxm,Zb _ _ (s1.trans `gf') Na,fun H4 s4=>#[_,rfl,az `A' fun e=>?_]]
   ·exact tk rfl _ _ s4 (by show V.int 1=nV `mB';rw[aD e];rfl)
   ·exact tk rfl _ _ s4 (by show V.int 0=nV `mB';rw[e];rfl)
  rw[ik] at X7;have WB:ys=((fX mv L s0 n).map fun t=>if en t=true then 1 else 0).map nV:=by
   rw[<-z2,eK,eK];clear hzl NF z1 z2 z3 TF;generalize xs.zip `k1'=zs at X7
   induction X7 with
   |nil=>rfl
   |cons h _ ih=>rw[bw,<-ih,h];rfl
  refine#[p0,D,_,_,rfl,rfl,s3 _ _ ep0,TF,?_,fun WO aaX=>?_]
  ·rw[WB,ae,ae];show 1+_<=sizeLine;omega
  rw[show[V.int 0]++ys=(qz en `k1').map nV by rw[WB];rfl];have s4:aM H1 (bO H3 WO `cI'):=aM.put `gf' ((s2.trans s3).free aaX);have e4:(bO H3 WO `cI') WO=some `cI':=aq;generalize bO H3 WO `cI'=H4 at s4 e4⊢
  refine#[aN _,fun q1 hq1=>#[aN _,fun q2 hq2=>#[by show 2<=sizeLine;decide,fun el Q7=>#[by show 1<=sizeLine;decide,fun ly NA=>?_]]]];have t1:=aM.new hq1 (o:=.tup []);have e1:(bO H4 q1 `mK') q1=some `mK':=aq;generalize bO H4 q1 `mK'=H5 at*
  have t2:=aM.new hq2 (o:=.tup []);have e2:(bO H5 q2 `mK') q2=some `mK':=aq;generalize bO H5 q2 `mK'=H6 at*
  have t3:=aM.new Q7 (o:=.lst [.ref q1,.ref q2]);have e3:(bO H6 el `h0') el=some `h0':=aq;generalize bO H6 el `h0'=H7 at*
  have t4:=aM.new NA (o:=.lst [.ref el]);have ely:(bO H7 ly `m8') ly=some `m8':=aq;have WZ:H4 ly=Option.none:=t1.free (t2.free (t3.free NA));generalize bO H7 ly `m8'=H8 at*
  refine#[by show 2<=sizeLine;decide,fun w0 Xp=>#[by show 1<=sizeLine;decide,fun wy hwy=>?_]];have t5:=aM.new Xp (o:=.lst `nT');have ew0:(bO H8 w0 `bt') w0=some `bt':=aq;generalize bO H8 w0 `bt'=H9 at*
  have t6:=aM.new hwy (o:=.lst [.ref w0]);have ewy:(bO H9 wy `m9') wy=some `m9':=aq;have Ul:H8 wy=Option.none:=t5.free hwy;generalize bO H9 wy `m9'=HA at*
  have t48:aM H4 H8:=t1.trans (t2.trans (t3.trans t4));have t4A:aM H4 HA:=t48.trans (t5.trans t6);have X0:H4 wy=Option.none:=t48.free Ul;have Jn:ly≠wy:=a9 ely Ul;have ZD:H1 ly=Option.none:=s4.free WZ;have X8:H1 wy=Option.none:=s4.free X0;have fY:(as.map V.ref).length=n:=by
   rw[ae,bH Nt];unfold kF;rw[ae,bv]
  refine⟨_,rfl,a,_,rfl,SqL.of (t4A _ _ (s4 _ _ ha)),Jt (K:=K) rfl (fun i σ H'=>∃(Tn Tz:Option V) (nm:ak) (oA qB:List ak),σ=[some (nV n),some (nV L),some (nV z),some v,some (.ref fm),some (.ref fe),some `bd',some `bu',some (.ref nm),some (.ref ly),some (.ref wy),Tn,Tz,none]/\
   aM H1 H'/\H' ly=some (.lst (oA.map V.ref))/\H' wy=some (.lst (qB.map V.ref))/\H' nm=some (.lst ((Bk mv en L s0 n i).1.map nV))/\nm≠ly/\nm≠wy/\
   Paired (fun b KM=>k4 `lU' b KM) oA (Px (Bk mv en L s0 n i).2).reverse/\Paired (fun b (ws:List Nat)=>xZ ly (xZ wy H') b=some `er') qB (MS L (Bk mv en L s0 n i).2).reverse)
   #[none,none,WO,[el],[w0],rfl,s4.trans t4A,t6 _ _ (t5 _ _ ely),ewy,?_,a9 e4 WZ,a9 e4 X0,?_,?_] (fun i σ H' _ ⟨_,_,_,_,_,_,sH,_⟩=>SqL.of (sH _ _ ha)) ?_ ?_⟩
  ·rw[yq];exact t4A _ _ e4
  ·rw[yq];have hx:∀c o,H7 c=some o->xZ ly (xZ wy HA) c=some o:=fun c o ec=>by
    rw[i6 (a9 ec NA),i6 (a9 (t4 _ _ ec) Ul)];exact t6 _ _ (t5 _ _ (t4 _ _ ec))
   exact .cons #[[q1,q2],hx _ _ e3,.cons (hx _ _ (t3 _ _ (t2 _ _ e1))) (.cons (hx _ _ (t3 _ _ e2)) .nil)] .nil
  ·rw[yq];refine .cons ?_ .nil;rw[i6 (a9 ely Xp).symm,i6 (a9 ew0 hwy)];exact t6 _ _ ew0
  ·
   rintro i x σ H' hi hx ⟨Tn,Tz,nm,oA,qB,rfl,sH,Xw,hWy,Wg,KO,hnw,Ny,Jk⟩;rw[fY] at hi hx;obtain⟨sa,hsa,rfl⟩:=wT hx;obtain⟨st,uk,hLs⟩:=fE Nt hsa;rw[Pi `mt] at uk;cases uk;obtain⟨Xh,QN⟩:=BQ (mv:=mv) (L:=L) h0 hI (k:=n - 1 - i) `mt;obtain⟨g1,g2,g3,g4,g5⟩:=OJ (en:=en) h0 hI (i:=i) (eo hi);obtain⟨WN,g2',g3',g4',g5'⟩:=OJ (en:=en) h0 hI (i:=i+1) hi;rw[J9 hi] at WN⊢
   have Xq:(me mv L s0 `gH').length<sizeLine:=by
    rw[Xh];exact hz _ _ `mt (qo _) (Rj _ `mt)
   rw[show n - 1 - i+1=n - i by omega] at QN;generalize Bk mv en L s0 n i=B at Wg Ny Jk g1 g2 g3 g4 g5 WN⊢
   generalize me mv L s0 `gH'=st at hLs Xh QN Xq WN⊢
   have Tr:=pf B.1 st (`bH',[0]);have Tr:(fj L B.1 st).1.length<=1+st.length:=Tr;generalize Xx:fj L B.1 st=mg2 at WN Tr⊢
   have xS:so L (cj B.2) mg2.1:=by
    cases WN with
    |cons h _=>exact h
   show 150;generalize bO H' nd `m6'=Ha at*
   refine#[_,rfl,_,rfl,_,rfl,_,rfl,sa,nm,nd,L,st,B.1,rfl,ul.same hLs (sH.trans u1),u1 _ _ Wg,Q0,hL,Xq,fun c hc=>#[by rw[(QN c hc).1];exact hL,fun y hy=>by rw[g3];exact(QN c hc).2 y hy],fun Hb l Er hl MV QW=>?_];rw[Xx] at MV QW;have kb:∀c o,H' c=some o->Hb c=some o:=fun c o ec=>Er c o (u1 _ _ ec) (a9 ec pz);have hlH:H' l=Option.none:=u1.free hl;have Nu:=kb _ _ Xw;have Uz:=kb _ _ hWy;have W0:l≠ly:=fun z=>by rw[z,Xw] at hlH;cases hlH
   have Za:l≠wy:=fun z=>by rw[z,hWy] at hlH;cases hlH
   refine#[_,rfl,.inl #[rfl,_,SqL.of Nu],_,rfl,An QW fun l1 bs rC Eu=>?_];have v1:aM Hb (bO Hb l1 `aL'):=aM.new rC;have el1:(bO Hb l1 `aL') l1=some `aL':=aq;generalize bO Hb l1 `aL'=Hc at*
   have Tt:l1≠ly:=fun z=>by rw[z,Nu] at rC;cases rC
   have Ts:l1≠wy:=fun z=>by rw[z,Uz] at rC;cases rC
   have Zj:oA.length=i+1:=by
    have:=bH Ny;rw[jx] at this;unfold Px at this;rw[aE,g2] at this;exact this
   refine#[ly,_,_,rfl,rfl,v1 _ _ Nu,by rw[ae,Zj];exact cO `mt,?_];have XY:(bO Hc ly `dF') ly=some `dF':=aq;have kd:∀c o,Hc c=some o->c≠ly->(bO Hc ly `dF') c=some o:=fun c o ec hc=>by rw[aZ hc];exact ec
   generalize bO Hc ly `dF'=Hd at*
   have Ro:=kd _ _ (v1 _ _ Uz) Jn.symm;have aa4:=kd _ _ (v1 _ _ QW) (eD (v1 _ _ QW) (v1 _ _ Nu) `XL);obtain⟨wr,X6⟩:=FV L B.2;rw[X6,fT] at Jk;obtain⟨xQ,wl,rfl,Re,acS⟩:=qx Jk;obtain⟨abp,X1⟩:=mP Re;obtain⟨X1,ab1⟩:=mP X1;have Zn:(xQ++[wl]).length<=1000:=by
    have:=bH Jk;have e5:∀G:List (List (List Nat)),(MS L G).length=G.length+1:=by
     intro G
     induction G with
     |nil=>rfl
     |cons c G ih=>show(MS L G).length+1=_;rw[ih,aF]
    have e6:=e5 B.2;rw[X6,g2] at e6;rw[this,aE,jx,cz];have e6:wr.length+1=i+1:=e6;omega
   refine#[_,rfl,.inl #[rfl,_,SqL.of Ro],_,rfl,An aa4 fun l2 Xd tO abQ=>?_];have v2:aM Hd (bO Hd l2 `go'):=aM.new tO;have el2:(bO Hd l2 `go') l2=some `go':=aq;have W2:=b4 (fun b c e=>v2 _ _ e) abQ;generalize bO Hd l2 `go'=He at*
   have ab0:=v2 _ _ (kd _ _ (v1 _ _ (kb _ _ ab1)) abp);have Rm:(iy L B.2).length=cj B.2:=by
    unfold iy;rw[ae,bv]
   refine#[_,rfl,1,rfl,wy,_,-1,.ref wl,rfl,rfl,SqL.of (v2 _ _ Ro),by rw[bj];exact P2 _ _,l2,wl,mg2.1,iy L B.2,rfl,#[Xd,el2,W2],ab0,fun c hc y hy=>by rw[Rm];exact xS.lt c hc y hy,by omega,fun c hc=>by rw[xS.len c hc];exact cO `mt,fun Hf l3 sf BG XB=>?_];rw[<-Iw xS] at XB;have abE:=sf _ _ (v2 _ _ Ro);refine#[wy,_,_,rfl,rfl,abE,by rw[ae];exact cO Zn,?_];have Tb:l3≠wy:=fun z=>by rw[z,v2 _ _ Ro] at BG;cases BG
   have W4:l3≠ly:=fun z=>by rw[z,v2 _ _ XY] at BG;cases BG
   have kf:∀c o,Hc c=some o->c≠ly->c≠wy->`gV' c=some o:=fun c o ec h1 h2=>by
    rw[aZ h2];exact sf _ _ (v2 _ _ (kd _ _ ec h1))
   have kx:aM `lU' (xZ ly (xZ wy `gV')):=fun c o ec=>by
    obtain⟨h1,ec⟩:=mP ec;obtain⟨h2,ec⟩:=mP ec;rw[i6 h1,i6 h2];exact kf _ _ (v1 _ _ (kb _ _ ec)) h1 h2
   refine#[_,_,l,oA++[l1],xQ++[wl]++[l3],rfl,fun c o ec=>?_,?_,?_,?_,W0,Za,?_,?_]
   ·exact kf _ _ (v1 _ _ (kb _ _ (sH _ _ ec))) (a9 ec ZD) (a9 ec X8)
   ·rw[aZ Jn,bj];exact sf _ _ (v2 _ _ XY)
   ·rw[aq,bj (l₁:=xQ++[wl])];rfl
   ·exact kf _ _ (v1 _ _ MV) W0 Za
   ·rw[NY];refine gH #[bs,?_,b4 (fun c KM ec=>?_) Eu] (b4 (fun c KM t=>k4.same t kx) Ny)
    ·rw[i6 Tt,i6 Ts];exact kf _ _ el1 Tt Ts
    ·have h1:c≠ly:=eD ec Nu `XL;have h2:c≠wy:=eD ec Uz `XL;rw[i6 h1,i6 h2];exact kf _ _ (v1 _ _ ec) h1 h2
   ·rw[Ox,X6,fT];refine gH ?_ (b4 (fun c ws e=>kx _ _ e) Jk);rw[i6 W4,i6 Tb,aZ Tb];exact XB
  ·
   rintro σ H' ⟨Tn,Tz,nm,oA,qB,rfl,sH,Xw,hWy,Wg,KO,hnw,Ny,Jk⟩;rw[fY] at Wg Ny Jk;obtain⟨g1,g2,g3,g4,g5⟩:=OJ (en:=en) h0 hI (i:=n) (ax n);rw[lc] at g3 g5;have g6:=FG (en:=en) h0 hI hzh n (ax n);generalize Bk mv en L s0 n n=B at Wg Ny Jk g1 g2 g3 g4 g5 g6;have Ny:=rE Ny;have Jk:=rE Jk;rw[nR] at Ny Jk;refine#[_,rfl,.inl #[rfl,_,SqL.of Xw],ly,_,rfl,rfl,Xw,?_];rw[<-qP];have XY:(bO H' ly `d8') ly=some `d8':=aq;have kg:∀c o,H' c=some o->c≠ly->(bO H' ly `d8') c=some o:=fun c o ec hc=>by rw[aZ hc];exact ec
   generalize bO H' ly `d8'=Hg at*
   have Xb:=kg _ _ hWy Jn.symm;refine#[_,rfl,.inl #[rfl,_,SqL.of Xb],wy,_,rfl,rfl,Xb,?_];rw[<-qP];have eWy:(bO Hg wy `d9') wy=some `d9':=aq;have kh:∀c o,Hg c=some o->c≠wy->(bO Hg wy `d9') c=some o:=fun c o ec hc=>by rw[aZ hc];exact ec
   generalize bO Hg wy `d9'=Hh at*
   have Zh:=kh _ _ XY Jn;have abi:=kh _ _ (kg _ _ Wg KO) hnw;have kx:aM `lU' Hh:=fun c o ec=>by
    obtain⟨h1,ec⟩:=mP ec;obtain⟨h2,ec⟩:=mP ec;exact kh _ _ (kg _ _ ec h1) h2
   have sHh:aM H1 Hh:=fun c o ec=>kh _ _ (kg _ _ (sH _ _ ec) (a9 ec ZD)) (a9 ec X8);have Rc:1<B.1.length:=by
    rw[g3];show 1<1+1;decide
   have uB:B.1.getD 1 0∈B.1:=RR.getD_mem Rc;have hm:=g4 _ uB;obtain⟨wr,X6⟩:=FV L B.2;have Rm:(iy L B.2).length=cj B.2:=by
    unfold iy;rw[ae,bv]
   have Um:=Jk;rw[X6] at Um;generalize qB.reverse=wz at Jk Um eWy⊢
   generalize oA.reverse=lz at Ny Zh XY⊢
   cases Um with
   | @cons wa _ wt _ hw1 hw2=>
    have aaP:=kx _ _ hw1;refine#[_,rfl,_,rfl,_,rfl,_,rfl,nm,_,1,nV `kQ',rfl,rfl,SqL.of abi,bx (j:=1) (by rw[aR,ao Rc,cQ Rc];rfl),_,rfl,_,rfl,fun x dx hx Wz lH=>?_];have sx:aM Hh (bO (bO Hh dx `i3') x (.ins cK dx [])):=aM.put (aM.new Wz) hx;refine#[x,dx,ly,wy,wa,n,L,z,B.1.getD 1 0,wt.map V.ref,iy L B.2,rfl,aq,sx _ _ eWy,sx _ _ aaP,by rw[Rm];exact hm,rfl,?_];rw[qA];have sy:aM Hh (bO (bO Hh dx `i3') x (.ins cK dx (yA n L z `kQ' ly wy ((iy L B.2).getD `kQ' 0)))):=aM.put (aM.new Wz) hx;refine k _ x B.2 `kQ' (s1.trans (sHh.trans sy)) (s1.free (sHh.free hx)) #[dx,ly,wy,lz,wa::wt,aq,sy _ _ Zh,b4 (fun c KM t=>k4.same (k4.same t kx) sy) Ny,sy _ _ eWy,b4 (fun c ws e=>sy _ _ (kx _ _ e)) Jk,g6] #[g1,g2,hm,fun r hr=>g5 0 s0 rfl r hr]
end
end
abbrev Mf:du:=my 9
abbrev tY:du:=my 10
abbrev DW:du:=my 29
abbrev rY:du:=my 30
abbrev DG:du:=my 31
abbrev Dy (G:List `Id) (i m:Nat):List Nat:=(G.getD i []).getD m []
abbrev oF (G:List `Id) (i m x:Nat):Nat:=(Dy G i m).getD x 0
def nz {α:Type} {l:List α} {i:Nat} {d:α} (h:i<l.length):l.drop i=l.getD i d::l.drop (i+1):=by
 rw[eJ h,cQ h]
def io {L:Nat} {G:List `Id} (g:iG L G):∀i,iG L `ar':=by
 induction g with
 |nil=>
  intro i;rw[nI];exact .nil
 |cons h g ih=>
  intro i;cases i with
  |zero=>exact .cons h g
  |succ i=>exact ih i
def uX {L:Nat} {G:List `Id} (g:iG L G) {i:Nat} (hi:i<G.length):so L (cj `aH') (G.getD i []):=by
 have:=io g i;rw[nz (d:=[]) hi] at this;cases this with
 |cons h _=>exact h
def nF {G:List `Id} {i:Nat} (hi:i<G.length):cj `ar'=(G.getD i []).length:=by
 rw[nz (d:=[]) hi];rfl
def mX {L:Nat} {G:List `Id} (g:iG L G) {i m:Nat} (hi:i<G.length) (hm:m<cj `ar'):(Dy G i m).length=L:=by
 rw[nF hi] at hm;exact(uX g hi).len _ `ja'
def sg {L:Nat} {G:List `Id} (g:iG L G) {i m x:Nat} (hi:i<G.length) (hm:m<cj `ar'):oF G i m x<cj `aH':=by
 have hl:=mX g hi hm;by_cases hx:x<L
 ·rw[nF hi] at hm;exact(uX g hi).lt _ `ja' _ (RR.getD_mem `c1')
 ·show(Dy G i m).getD x 0<_;rw[ay,bc `mt];have:=io g (i+1);cases e:G.drop (i+1) with
  |nil=>exact Nat.zero_lt_succ _
  |cons a b=>
   rw[e] at this;cases this with
   |cons h _=>exact h.pos
def AT {H:Hp} {oA:List ak} {G:List `Id} (p:Paired `dD' oA (Px G)) {i:Nat} (hi:i<G.length):∃b as,oA[i]? =some b/\H b=some `aq'/\Paired `ad' as (G.getD i []):=by
 have hl:oA.length=G.length+1:=by
  rw[bH p];unfold Px;rw[aE];rfl
 obtain⟨ly,e,as,h1,h2⟩:=fE p (ao (show i<oA.length by omega));unfold Px at e;rw[cq hi,ao hi] at e;cases e;rw[cQ hi];exact#[_,as,ao `mt,h1,h2]
def nL {H:Hp} {as:List ak} {ly:List `at'} (p:Paired `ad' as ly) {m:Nat} (hm:m<ly.length):∃t,as[m]? =some t/\H t=some (.tup ((ly.getD m []).map nV)):=by
 have hl:=bH p;obtain⟨c,e,h⟩:=fE p (ao (show m<as.length by omega));rw[ao hm] at e;cases e;rw[cQ hm];exact#[_,ao `mt,h]
def NQ (L:Nat):∀(G:List (List (List Nat))) (i:Nat),i<=G.length->(MS L G)[i]? =some (iy L `ar')
 | [],0,_=>rfl
 |ly::rest,0,_=>rfl
 |ly::rest,i+1,h=>NQ L rest i (Nat.le_of_succ_le_succ h)
def Kl (L:Nat):∀(G:List (List (List Nat))),(MS L G).length=G.length+1
 | []=>rfl
 |_::rest=>dH (· +1) (Kl L rest)
def DX {H:Hp} {qB:List ak} {L:Nat} {G:List `Id} (p:Paired (fun b (ws:List Nat)=>H b=some `er') qB (MS L G)) {i:Nat} (hi:i<=G.length):∃b,qB[i]? =some b/\H b=some (.lst ((iy L `ar').map nV)):=by
 have hl:=bH p;rw[Kl] at hl;obtain⟨ws,e,h⟩:=fE p (ao (show i<qB.length by omega));rw[NQ L G i hi] at e;cases e;exact#[_,ao `mt,h]
def wx (L:Nat) (G:List `Id):(iy L G).length=cj G:=by
 unfold iy;rw[ae,bv]
def iu {as:List ak} {i:Nat} {b:ak} (h:as[i]? =some b):(as.map V.ref)[i]? =some `i4':=by rw[aR,h];rfl
def jM {l:List Nat} {i:Nat} (h:i<l.length):`bR'[i]? =some (nV `gQ'):=by rw[aR,ao h,cQ h];rfl
def fG {K:ai} {H:Hp} {a:ak} {xs:List V} {j:Nat} {v:V} {Q:VK} (h:H a=some `bh') (e:xs[j]? =some v) (q:Q v H):ic K `bu' (nV j) H Q:=#[a,_,j,v,rfl,rfl,SqL.of h,bx e,q]
def wX {K:ai} {H:Hp} {a:ak} {xs:List V} {j:Nat} {v:V} {Q:VK} (h:H a=some `cd') (e:xs[j]? =some v) (q:Q v H):mi K `bu' (nV j) H Q:=#[a,_,j,v,rfl,rfl,iX.of h,bx e,q]
def Si (C:ak) (H:Hp) (r:ak) (n L z:Nat) (G:List `Id) (m:Nat):Prop:=eO C H r n L z G m/\iG L G/\G.length=n/\m<cj G/\n<=20/\L<=20/\z<=3
def uL {α β:Type} {R S:α->β->Prop} (h:∀a b,R a b->S a b):∀{l:List α} {m:List β},Paired R l m->Paired S l m
 |_,_,.nil=>.nil
 |_,_,.cons a t=>.cons (h _ _ a) (uL h t)
def eO.same {C:ak} {H H':Hp} {r:ak} {n L z:Nat} {G:List `Id} {m:Nat} (k:eO C H r n L z G m) (s:aM H H'):eO C H' r n L z G m:=by
 obtain⟨dx,la,wa,oA,qB,h1,h2,h3,h4,h5,h6⟩:=k;exact#[dx,la,wa,oA,qB,s _ _ h1,s _ _ h2,uL `fp' h3,s _ _ h4,uL (fun _ _ e=>s _ _ e) h5,h6]
def Si.same {C:ak} {H H':Hp} {r:ak} {n L z:Nat} {G:List `Id} {m:Nat} (k:Si C H r n L z G m) (s:aM H H'):Si C H' r n L z G m:=#[k.1.same s,k.2]
def Os (C:ak):Sp:=fun vs H Q _=>∃(r:ak) (i nd x n L z:Nat) (G:List (List (List Nat))) (m:Nat),vs=[.ref r,nV i,nV nd,nV x]/\Si C H r n L z G m/\i<n/\nd<cj `ar'/\Q (nV `hl') H
abbrev rn:List Str:=`lV'
def P7:bY rn rn (aw tY):=`dl
def Cz {f C:ak} {fd:aH} (F:nv K "follow" "follow" tY f fd) (KC:oQ K C) (T:Txt4 K mg):bT P w K mg base dj 1 f fd rn (Os C):=by
 refine F.ok P7 `ST `LE
 ·obtain⟨r,i,nd,x,n,L,z,G,m,rfl,_⟩:=h;rfl
 ·obtain⟨r,i,nd,x,n,L,z,G,m,rfl,⟨⟨dx,la,wa,oA,qB,h1,h2,h3,h4,h5,h6⟩,g,hn,hm,_⟩,hi,pz,q⟩:=h;obtain⟨td,gu⟩:=T.dead;refine⟨_,am (cC (bb (sO (pv 3) `XV)) (aG (aY (`nX' `IO gu ⟨td,rfl⟩))) br)
   (aG (aY (`nW' (`nV' (`nV' `XV (pv 1) `Ch) (pv 2) `Ch) (pv 3) `Ch))),?_⟩
  subst hn;have hl:=mX g hi pz;show 163;refine#[_,rfl,_,rfl,r,C,dx,_,_,rfl,h1,KC.cl,KC.f2,rfl,x,L,rfl,rfl,_,rfl,az `A' fun e=>?_]
  ·have e:=af e;have e0:oF G i nd x=0:=by
    show(Dy G i nd).getD x 0=0;rw[ay,bc `mt];rfl
   rw[e0] at q;exact q
  ·have e:=aj e;exact#[_,rfl,r,C,dx,_,_,rfl,h1,KC.cl,KC.f5,rfl,_,rfl,fG h2 (iu e1) #[_,rfl,fG e2 (iu e4) #[_,rfl,wX e5 (jM (by rw[hl];omega)) q]]]
def yh {G:List `Id} {i:Nat} (hi:i<G.length) (m x:Nat):RR.tl (cx `ar' m) x=cx `aH' (oF G i m x):=by
 funext r
 rw[nz (d:=[]) hi];rfl
def Ka {L:Nat} {G:List `Id} (g:iG L G) {i:Nat} (hi:i<G.length) {m:Nat} (hm:m<cj `ar') (x:Nat):(iy L `aH').getD (oF G i m x) 0=RR.num L `bi' (RR.tl (cx `ar' m) x):=by
 rw[pU (sg g hi hm),yh hi,b6]
def K8 {g:Nat->Nat} {L x k:Nat} (hx:x<L) (hk:g x<=k):k5 g `lT' k=k5 g (range' (x+1) `lL') `lb':=by
 rw[show L - x=`lL'+1 by omega,jE];exact au `mt
def Lq {g:Nat->Nat} {L x k:Nat} (hx:x<L) (hk:k<g x):k5 g `lT' k=some (x,k):=by
 rw[show L - x=`lL'+1 by omega,jE];exact aD hk
def PH {g:Nat->Nat} {L x:Nat} (hx:x<L):Wqarao.sum ((range' x (L - x)).map g)=g x+Wqarao.sum ((range' (x+1) `lL').map g):=by
 rw[show L - x=`lL'+1 by omega,jE,bw,RR.sum_cons]
def U6 {g:Nat->Nat} {L x k:Nat} (h:k<Wqarao.sum ((range' x (L - x)).map g)):x<L:=by
 by_cases hx:x<L
 ·exact hx
 ·rw[show L - x=0 by omega] at h;exact absurd h (ip _)
def EM {l:List Nat} {x:Nat}:l.map nV++[nV x]=(l++[x]).map nV:=by rw[bj];rfl
def Ow (L n:Nat) (f:dh->Bool):RR.num L (n+1) f=Wqarao.sum ((range' 0 (L - 0)).map fun x=>RR.num L n (RR.tl f x)):=by
 rw[iC,<-de];rfl
def SI (C:ak):Sp:=fun vs H Q _=>∃(r:ak) (k n L z:Nat) (G:List (List (List Nat))) (m:Nat),vs=[.ref r,nV k]/\Si C H r n L z G m/\k<RR.num L n `b4'/\∀(H':Hp) (l:ak),aM H H'->H l=Option.none->H' l=some (.lst ((js L n `b4' k).map nV))->Q `cp' H'
abbrev Z8:List Str:=["kind","number","row","node","left","place","children","ways","x"]
def mW:bY Z8 `cF' (aw DW):=`dl
def yM {f C:ak} {fd:aH} (F:nv K "row_at" "row_at" DW f fd) (KC:oQ K C) (T:Txt4 K mg):bT P w K mg base dj 1 f fd `cF' (SI C):=by
 refine F.ok mW `ST `LE
 ·obtain⟨r,k,n,L,z,G,m,rfl,_⟩:=h;rfl
 ·obtain⟨r,k,n,L,z,G,m,rfl,⟨⟨dx,la,wa,oA,qB,h1,h2,h3,h4,h5,h6⟩,g,hn,hm,UF,Ur,_⟩,hk,q⟩:=h;refine⟨_,am (`n1' mW.nd rfl `Cl `l6')
   (am (`n2' mW.nd rfl `Cl `XV)
   (am (`n9' mW.nd rfl `Cl (pv 1))
   (am (mf cD rfl (jc `IO T.nRange (aa `XV aB)) (cp (i:=5) mW.nd rfl `Cl)
    (am (`od' mW.nd rfl `Cl (`nV' (`nV' `XV (pv 5) `Ch) (pv 3) `Ch))
    (am (bP (i:=7) mW.nd rfl `Cl (`nV' `XV (cJ gx (pv 5) aC) `Ch))
    (am (bP (i:=8) mW.nd rfl `Cl aC)
    (am (tK cD (bb (sO (pv 4) (`nV' (pv 7) (`nW' (pv 6) (pv 8) `Ch) `Ch)))
     (am (uG (i:=4) mW.nd rfl `Cl (`nV' (pv 7) (`nW' (pv 6) (pv 8) `Ch) `Ch) U3)
     (aG (uG (i:=8) mW.nd rfl `Cl aC A7))))
    (am (gZ (nZ bu bX bW gN (pv 2) (aa (pv 8) aB)))
    (aG (`n2' mW.nd rfl `Cl (`nW' (pv 6) (pv 8) `Ch)))))))))
   (aG (aY (pv 2)))))),?_⟩
  subst hn;refine⟨aN _,fun q0 uh=>?_⟩;have s1:aM H (bO H q0 `bo'):=aM.new uh;refine⟨_,rfl,r,C,dx,_,_,rfl,s1 _ _ h1,KC.cl,KC.f4,rfl,_,rfl,_,rfl,r,C,dx,_,_,rfl,s1 _ _ h1,KC.cl,KC.f1,rfl,_,rfl,(rg `mt).1,(rg `mt).2,?_⟩;rw[bL];refine wP (lo:=0) (n:=G.length) (fun i σ H'=>∃(o5 o6 o7 o8:Option V) (nd left:Nat) (dn:List Nat),σ=[some `bd',some (nV k),some `h1',some (nV nd),some (nV left),o5,o6,o7,o8]/\aM H H'/\H' q0=some `lI'/\dn.length=i/\nd<cj `ar'/\
   left<RR.num L `gx' (cx `ar' nd)/\js L G.length `b4' k=dn++js L `gx' (cx `ar' nd) left)
   #[none,none,none,none,m,k,[],rfl,s1,aq,rfl,hm,hk,rfl] ?_ ?_
  ·rintro i σ H' hi ⟨o5,o6,o7,o8,nd,left,dn,rfl,s2,hq,Xj,pz,Ez,Nv⟩;rw[show(0:Int)+(i:Int)=(i:Int) by omega];show 163;obtain⟨wb,e6,e7⟩:=DX h5 (show i+1<=G.length from hi);have hl:=mX g hi pz;have Re:=wx L `aH';have hg:=Ka g hi pz;have jB:∀x,oF G i nd x< (iy L `aH').length:=fun x=>by rw[Re];exact sg g hi pz
   rw[show G.length - i=`bi'+1 by omega] at Ez Nv;rw[Ow] at Ez;generalize hgg:(fun x=>RR.num L `bi' (RR.tl (cx `ar' nd) x))=gg at Ez;refine#[_,rfl,r,C,dx,_,_,rfl,s2 _ _ h1,KC.cl,KC.f5,rfl,_,rfl,fG (s2 _ _ h2) (iu e1) #[_,rfl,fG (s2 _ _ e2) (iu e4) #[_,rfl,r,C,dx,_,_,rfl,s2 _ _ h1,KC.cl,KC.f6,rfl,_,rfl,i,1,rfl,rfl,fG (j:=i+1) (s2 _ _ h4) (iu e6) ?_]]];refine#[fun μ σ H3=>∃x lf,μ=L - x/\σ=[some `bd',some (nV k),some `h1',some (nV nd),some (nV lf),some (nV i),some `h2',some (.ref wb),some (nV x)]/\H3=H'/\k5 gg (range' 0 (L - 0)) left=k5 gg `lT' lf/\lf<Wqarao.sum ((range' x (L - x)).map gg),#[L,0,left,rfl,rfl,rfl,rfl,Ez],?_];rintro μ σ H3 ⟨x,lf,rfl,rfl,rfl,hp,hlf⟩;have hx:x<L:=U6 hlf;have ggx:gg x=(iy L `aH').getD `hl' 0:=by rw[hg,<-hgg]
   refine#[_,rfl,_,rfl,_,rfl,_,rfl,wX (s2 _ _ e5) (jM `c1') (fG (s2 _ _ e7) (jM (jB x)) #[_,_,rfl,rfl,_,rfl,az `A' fun e=>?_])]
   ·have e:=af e;have e:gg x<=lf:=by rw[ggx];exact mJ.mp e
    refine#[fun σ' H'=>∃x' lf',x'=x+1/\lf'=lf - gg x/\σ'=[some `bd',some (nV k),some `h1',some (nV nd),some (nV lf'),some (nV i),some `h2',some (.ref wb),some (nV x')]/\H'=H3,fun σ' H' ⟨x',lf',e1,e2,e3,e4⟩=>#[L - (x+1),by omega,x',lf',by rw[e1],e3,e4,?_,?_],?_]
    ·rw[hp,K8 hx e,e1,e2]
    ·rw[PH hx] at hlf;rw[e1,e2];omega
    ·refine#[_,rfl,_,rfl,_,rfl,_,rfl,wX (s2 _ _ e5) (jM `c1') (fG (s2 _ _ e7) (jM (jB x)) #[_,_,rfl,rfl,_,rfl,x,1,rfl,rfl,x+1,lf - gg x,rfl,rfl,?_,rfl])];rw[<-ggx,vk e];rfl
   ·have e:=aj e;have e:lf<gg x:=by rw[ggx];exact ji.mp `mf'
    rw[Lq hx e] at hp;refine#[_,rfl,.inl #[rfl,_,SqL.of hq],_,rfl,q0,_,_,rfl,rfl,hq,by rw[ae];exact cO `mt,?_];have lH:t≠q0:=fun z=>by rw[z] at e5;rw[e5] at uh;cases uh
    have Ux:H q0=Option.none:=uh;refine#[_,rfl,_,rfl,wX (by rw[aZ lH];exact s2 _ _ e5) (jM `c1') #[_,_,_,_,oF G i nd x,lf,dn++[x],rfl,aM.put s2 Ux,?_,by rw[aE,Xj];rfl,sg g hi pz,?_,?_]]
    ·rw[aq,EM]
    ·rw[<-yh hi];rw[<-hgg] at e;exact e
    ·rw[Nv];show dn++(match k5 (fun x=>RR.num L `bi' (RR.tl (cx `ar' nd) x)) `eu' left with
      |none=>[]
      |some z=>z.1::js L `bi' (RR.tl (cx `ar' nd) z.1) z.2)=_
     rw[hgg,de,show L=L - 0 from rfl,hp,cI];show dn++(x::js L _ (RR.tl _ x) lf)=_;rw[yh hi];rfl
  ·rintro σ H' ⟨o5,o6,o7,o8,nd,left,dn,rfl,s2,hq,Xj,pz,Ez,Nv⟩;refine `hH';rw[lc] at Nv;rw[Nv,show js L 0 (cx (G.drop G.length) nd) left=[] from rfl,bU];exact hq
structure ub (K:ai) (mg:Str->Option aA) (x:Str) (st:du) (f:ak) (fd:aH) (ps:List Str):Prop where
 g:mg x=some `bA'
 k:keepIn K `bA'=true
 b:fV K fd ps []
 fn:nv K x x st f fd
def lcT {α:Type} {K:ai} {R:Hp->V->α->Prop} {p:α->Bool} {l:List α} {f:α->V} {a:ak} {H1:Hp} {D:ak} {g:TG} {tt:TT} {te:TE} {vs:List Nat} {σ:L2.St} {Qd:Hp->Prop} (hR:uy R) (ha:H1 a=some (.tup (l.map f))) (hD:H1 D=Option.none) (hz:l.length<sizeLine)
 (t:∀x∈l,QD R p g tt te vs σ H1 D x (f x)) (hd:∀(H:Hp) (ys:List V),aM H1 H->H D=some `cC'->Paired (R H) ys `nv'->Qd H):TN (WF K a) g tt te vs σ H1 D Qd:=by
 refine IP (xs:=l.map f) (nE R p l H1 D) (qW hD) (fun i H hi I=>iX.of `nf') (fun i v H hi I=>?_) fun H I=>?_
 ·show 64;exact nE.step hR.d hD hz hx I fun H2 NX s _ sk tk=>t x (aQ hx) H2 NX s sk tk
 ·rw[ae] at I;show 48
def VY {L:Nat} {G:List `Id} (g:iG L G) {i:Nat} (hi:i<G.length) {nd:Nat} (pz:nd<cj `ar') (x:Nat):
 Wqarao.sum (((Dy G i nd).take x).map fun y=>(iy L `aH').getD y 0)=qc L `bi' (cx `ar' nd) x:=by
 rw[pP];unfold qc;rw[be,mX g hi pz]
 congr 1
 refine dE fun y hy=>?_;have hy:=aL.mp hy;rw[<-Ka g hi pz]
 congr 1
 rw[ay,eX `mt,<-ay]
def Fu {L:Nat} {G:List `Id} (g:iG L G) {i:Nat} (hi:i<G.length) {nd:Nat} (pz:nd<cj `ar') (x:Nat) (r:dh):
 iL L `gx' (cx `ar' nd) (x::r)=(qc L `bi' (cx `ar' nd) x+(iL L `bi' (cx `aH' `hl') r).1,(iL L `bi' (cx `aH' `hl') r).2):=by
 rw[show G.length - i=`bi'+1 by omega];show(if x<L then _ else _)=_;by_cases h:x<L
 ·rw[aD h,yh hi]
 ·have e0:oF G i nd x=0:=by
   show(Dy G i nd).getD x 0=0;rw[ay,bc (by rw[mX g hi pz];omega)];rfl
  have e1:cx `aH' 0=RR.nil:=funext fun r=>ii (io g (i+1)) r;rw[au h,e0,e1,y4];rfl
def V9 {l:List Nat} {x:Nat}:ou `bR' none `lk'=(l.take x).map nV:=by
 unfold ou;rw[HT.sIx_none,HT.sIx_nat,ae,fZ,lM,iC];by_cases h:x<=l.length
 ·rw[show min x l.length=x by omega]
 ·rw[show min x l.length=l.length by omega,cS `f5',cS `iw']
def N3 {K:ai} {H:Hp} {a:ak} {l:List Nat} {x:Nat} {Q:VK} (h:H a=some (.tup `bR')) (q:∀(H':Hp) (p:ak),aM H H'->H' p=some `ds'->Q `dR' H'):KB K `bu' none `lk' H Q:=by
 refine#[a,_,rfl,iX.of h,fun hw=>?_,fun _ p hp=>?_]
 ·rw[HT.sIx_nat,ae] at hw;refine q H a `M' ?_;rw[cS (by have:=hw.2;omega)];exact h
 ·rw[V9];exact q _ p `fQ' aq
def aap (C:ak):Sp:=fun vs H Q _=>∃(r a:ak) (n L z:Nat) (G:List (List (List Nat))) (m:Nat) (row:List Nat),vs=`dz'/\Si C H r n L z G m/\H a=some `hf'/\row.length<=n/\
 ∀(H':Hp) (t:ak),aM H H'->H t=Option.none->H' t=some (.tup [nV (iL L n `b4' row).1,nV (iL L n `b4' row).2])->Q `h2' H'
abbrev aad:List Str:=["kind","row","before","node","place","number","ways","child"]
def uA:bY aad `be' (aw rY):=`dl
def Dq {f C fF:ak} {fd Ui:aH} (F:nv K "beginning" "beginning" rY f fd) (KC:oQ K C) (T:Txt4 K mg) (S:ub K mg "follow" tY fF Ui rn):bT P w K mg base dj 2 f fd `be' (aap C):=by
 refine F.ok uA `ST `LE
 ·obtain⟨r,a,n,L,z,G,m,row,rfl,_⟩:=h;rfl
 ·obtain⟨r,a,n,L,z,G,m,row,rfl,hK,ha,NC,q⟩:=h;obtain⟨⟨dx,la,wa,oA,qB,h1,h2,h3,h4,h5,h6⟩,g,hn,hm,UF,Ur,_⟩:=id hK;refine⟨_,am (`n1' uA.nd rfl `Cl aC)
   (am (`n2' uA.nd rfl `Cl `XV)
   (am (mf cD rfl (vj `IO T.nEnum `aN') (uE rfl (jm (cp (i:=4) uA.nd rfl `Cl) (jm (cp (i:=5) uA.nd rfl `Cl) r6)))
    (am (`od' uA.nd rfl `b0' (`nV' `XV (cJ gx (pv 4) aC) `Ch))
    (am (uG (i:=2) uA.nd rfl `Cl (dq (C6 rfl) `IO T.nSum boot_sum (aa (`oi' rfl uA.nd (DC (iB (r:=KB K) J0 (`nV' (`nV' `XV (pv 4) `Ch) (pv 3) `Ch) lU (im (pv 5)))) (di `IO) (fun _ _ _ _ _=>cp (i:=7) uA.nd rfl `Cl) `aw'
     (fun _ _ _ _ _=>bz (r:=ic K) bi (pv 6) (pv 7) `Ch)) aB)) A7)
    (aG (`n2' uA.nd rfl `Cl (`nU' `iT' hr `IO S.g S.k S.b .nil b9 (aa (pv 0) (aa (pv 4) (aa (pv 3) `cP')))))))))
   (aG (aY (eP (aa (pv 2) (aa (`nV' (`nV' `XV (dq eu `IO T.nLen cY `aN') `Ch) (pv 3) `Ch) aB))))))),?_⟩
  subst hn;refine⟨_,rfl,r,C,dx,_,_,rfl,h1,KC.cl,KC.f4,rfl,_,rfl,a,_,rfl,SqL.of ha,?_⟩;refine Go (K:=K) (xs:=row.map nV) (fun i σ H'=>∃(o4 o5 o6:Option V) (bf nd:Nat),σ=[some `bd',some `bu',some (nV bf),some (nV nd),o4,o5,o6,none]/\aM H H'/\nd<cj `ar'/\
   iL L G.length `b4' row=(bf+(iL L `gx' (cx `ar' nd) (row.drop i)).1,(iL L `gx' (cx `ar' nd) (row.drop i)).2))
   #[none,none,none,0,m,rfl,aM.refl _,hm,by rw[cE];rfl] (fun i σ H' hi ⟨_,_,_,_,_,_,s2,_⟩=>SqL.of `hU') ?_ ?_
  ·rintro i x T' σ H' hi ⟨o4,o5,o6,bf,nd,rfl,s2,pz,CU⟩ hT;show 64;show 203
   have hl:=mX g wv pz;obtain⟨b,as,e1,e2,e3⟩:=AT h3 wv;obtain⟨t,e4,e5⟩:=nL e3 (by rw[nF wv] at pz;exact pz);obtain⟨wb,e6,e7⟩:=DX h5 (show i+1<=G.length from wv);rw[eJ hir,hxe,Fu g wv pz] at CU;show 93
   refine#[_,rfl,r,C,dx,_,_,rfl,s3 _ _ h1,KC.cl,KC.f6,rfl,_,rfl,i,1,rfl,rfl,fG (j:=i+1) (s3 _ _ h4) (iu e6) ?_];refine#[_,rfl,_,rfl,r,C,dx,_,_,rfl,s3 _ _ h1,KC.cl,KC.f5,rfl,_,rfl,fG (s3 _ _ h2) (iu e1) #[_,rfl,fG (s3 _ _ e2) (iu e4) #[_,rfl,_,rfl,N3 (s3 _ _ e5) fun H4 p s4 hp=>?_]]];refine#[p,rfl,#[_,iX.of hp],fun D hD=>lcT (R:=fun _ v (y:Nat)=>v=nV ((iy L `aH').getD y 0)) (p:=fun _=>true) `km' hp hD (cO (by have sJ:((G.getD i []).getD nd []).length=L:=hl;rw[be];omega)) `mS' fun H5 ys s5 GI KL=>?_]
   ·have hyl:y< (iy L `aH').length:=by
     rw[wx];rw[nF wv] at pz;exact(uX g wv).lt _ (RR.getD_mem pz) _ (List.mem_of_mem_take hy)
    refine#[rfl,_,rfl,_,rfl,fG (s5 _ _ (s4 _ _ (s3 _ _ e7))) (jM hyl) ?_];exact tk rfl _ _ `M' rfl
   ·rw[ik] at KL;have WB:ys=(((Dy G i nd).take x).map fun y=>(((iy L `aH').getD y 0:Nat):Int)).map V.int:=by
     rw[eK];clear GI;generalize (Dy G i nd).take x=l at KL
     induction KL with
     |nil=>rfl
     |cons h _ ih=>rw[bw,<-ih,h];rfl
    have abt:((((Dy G i nd).take x).map fun y=>(((iy L `aH').getD y 0:Nat):Int))).sum=((qc L `bi' (cx `ar' nd) x:Nat):Int):=by
     rw[<-VY g wv pz,<-ym,eK];rfl
    rw[WB] at GI;have s6:=s3.trans (s4.trans s5);refine#[D,_,rfl,SqL.of GI,bf,_,rfl,rfl,_,rfl,_,rfl,_,rfl,_,rfl,r,i,nd,x,G.length,L,z,G,m,rfl,hK.same s6,wv,pz,?_];refine#[some (nV i),some (nV x),some (.ref wb),bf+qc L `bi' (cx `ar' nd) x,oF G i nd x,?_,s6,sg g wv pz,?_]
    ·rw[abt];rfl
    ·rw[CU,Nat.add_assoc]
  ·rintro σ H' ⟨o4,o5,o6,bf,nd,rfl,s2,pz,CU⟩;rw[ae] at pz CU;rw[fx,wS,Nat.add_zero] at CU;obtain⟨wb,e6,e7⟩:=DX h5 NC;refine#[_,rfl,_,rfl,r,C,dx,_,_,rfl,s2 _ _ h1,KC.cl,KC.f6,rfl,_,rfl,a,_,rfl,.inl (SqL.of `hU'),?_];rw[ae];refine fG (s2 _ _ h4) (iu e6) #[_,rfl,fG (s2 _ _ e7) (jM (by rw[wx];exact pz)) #[by show 2<=sizeLine;decide,fun t ht=>q _ t (s2.trans (aM.new ht)) (s2.free ht) ?_]];rw[aq,CU,pU pz,b6]
def rM:∀(G:List (List (List Nat))) (m:Nat) (r:List Nat) (x:Nat),r.length<G.length->iz G m (r++[x])=oF G r.length (iz G m r) x
 | [],_,r,_,h=>absurd h (ip _)
 |ly::G,m,[],x,_=>by
  show iz G `dE' []=_;cases G<;>rfl
 |ly::G,m,y::r,x,h=>rM G _ r x (Nat.lt_of_succ_lt_succ h)
def nw (G:List `Id) (m:Nat):iz G m []=m:=by cases G<;>rfl
def Mu {l:List Nat} {i x:Nat} (h:l[i]? =some x):l.take (i+1)=l.take i++[x]:=by rw[kN,h];rfl
def AW {G:List `Id} {m i x:Nat} {row:List Nat} (h:row[i]? =some x) (hi:i<G.length):iz G m `jn'=oF G i (iz G m (row.take i)) x:=by
 have hl:(row.take i).length=i:=by
  have:=(bd.mp h).1;rw[be];omega
 rw[Mu h,rM _ _ _ _ `mt,hl]
def FM {L:Nat} {G:List `Id} (g:iG L G) {m:Nat} (hm:m<cj G) (row:List Nat) (hr:row.length<=G.length):∀i,i<=row.length->iz G m (row.take i)<cj `ar'
 |0,_=>by
  rw[List.take_zero,nw];exact hm
 |i+1,h=>by
  rw[AW (ao h) `mt];exact sg g `mt (FM g hm row hr i (eo h))
def wI (G:List `Id) (m:Nat) (row:List Nat):Option Nat:=if m=0 then some 0 else(List.range row.length).find? fun i=>iz G m `jn'==0
def ach:Option Nat->V
 |none=>.non
 |some i=>nV i
def JM {p:Nat->Bool} {n i:Nat} (hi:i<n) (h:∀j,j<i->p j=false) (e:p i=true):(List.range n).find? p=some i:=by
 rw[nr];refine#[e,i,by rw[bv];exact hi,by rw[jT],fun j hj=>?_];rw[jT,h j hj];rfl
def Jr {p:Nat->Bool} {n:Nat} (h:∀j,j<n->p j=false):(List.range n).find? p=none:=by
 rw[pG];intro j hj;rw[h j (aL.mp hj)];decide
def SB (C:ak):Sp:=fun vs H Q _=>∃(r a:ak) (n L z:Nat) (G:List (List (List Nat))) (m:Nat) (row:List Nat),vs=`dz'/\Si C H r n L z G m/\H a=some `hf'/\row.length<=n/\∀(H':Hp),aM H H'->Q (ach (wI G m row)) H'
abbrev JG:List Str:=["kind","row","node","place","number"]
def v8:bY JG `be' (aw DG):=`dl
def P0 {f C fF:ak} {fd Ui:aH} (F:nv K "fault" "fault" DG f fd) (KC:oQ K C) (T:Txt4 K mg) (S:ub K mg "follow" tY fF Ui rn):bT P w K mg base dj 2 f fd `be' (SB C):=by
 refine F.ok v8 `ST `LE
 ·obtain⟨r,a,n,L,z,G,m,row,rfl,_⟩:=h;rfl
 ·obtain⟨r,a,n,L,z,G,m,row,rfl,hK,ha,NC,q⟩:=h;obtain⟨⟨dx,la,wa,oA,qB,h1,h2,h3,h4,h5,h6⟩,g,hn,hm,UF,Ur,_⟩:=id hK;obtain⟨td,gu⟩:=T.dead;refine⟨_,am (cC (bb (da `XV (`nX' `IO gu ⟨td,rfl⟩))) (aG (aY aC)) br)
   (am (`n1' v8.nd rfl `Cl `XV)
   (am (mf cD rfl (vj `IO T.nEnum `aN') (uE rfl (jm (cp (i:=3) v8.nd rfl `Cl) (jm (cp (i:=4) v8.nd rfl `Cl) r6)))
    (am (`n1' v8.nd rfl `Cl (`nU' `iT' hr `IO S.g S.k S.b .nil b9 (aa (pv 0) (aa (pv 3) (aa (pv 2) `cO')))))
    (aG (cC (bb (da (pv 2) (`nX' `IO gu `g9'))) (aG `jA') br))))
   (aG (aY iU)))),?_⟩
  rw[show L2.start JG `dz'=[some `bd',some `bu',none,none,none] from rfl];subst hn;refine#[_,rfl,r,C,dx,_,_,rfl,h1,KC.cl,KC.f4,rfl,m,0,rfl,rfl,_,rfl,az `A' fun e=>?_]
  ·have e:=af e;have e:m=0:=by omega
   have:=q H `M';unfold wI at this;rw[aD e] at this;exact this
  have e:=aj e;have W8:m≠0:=by omega
  have hf:wI G m row=(List.range row.length).find? fun i=>iz G m `jn'==0:=au W8;refine#[_,rfl,r,C,dx,_,_,rfl,h1,KC.cl,KC.f4,rfl,_,rfl,a,_,rfl,SqL.of ha,?_];refine Go (K:=K) (xs:=row.map nV) (fun i σ H'=>∃(o3 o4:Option V),σ=[some `bd',some `bu',some (nV (iz G m (row.take i))),o3,o4]/\aM H H'/\∀j,j<i->(iz G m (row.take (j+1))==0)=false)
   #[none,none,by rw[List.take_zero,nw];rfl,aM.refl _,fun j hj=>absurd hj (ip _)] (fun i σ H' hi ⟨_,_,_,s2,_⟩=>SqL.of `hU') ?_ ?_
  ·rintro i x T' σ H' hi ⟨o3,o4,rfl,s2,k8⟩ hT;show 64;show 203
   have pz:=FM g hm row NC i (eo hir);show 93
   refine#[_,rfl,_,rfl,_,rfl,_,rfl,r,i,_,x,G.length,L,z,G,m,rfl,hK.same s3,wv,pz,?_];rw[<-AW hx wv];refine#[_,rfl,_,0,rfl,rfl,_,rfl,az (fun e=>`jt') fun e=>#[_,_,rfl,s3,fun j hj=>?_]]
   ·have e:=af e;have e:iz G m `jn'=0:=by omega
    have:=q H3 s3;rw[hf,JM hir k8 (by rw[e];rfl)] at this;exact this
   ·have e:=aj e;by_cases h:j<i
    ·exact k8 j h
    ·obtain rfl:j=i:=by omega
     exact beq_false_of_ne fun z=>e (by rw[z];rfl)
  ·rintro σ H' ⟨o3,o4,rfl,s2,k8⟩;rw[ae] at k8;have:=q H' s2;rw[hf,Jr k8] at this;exact this
abbrev Ki:du:=my 26
abbrev A4:du:=my 27
structure Txt5 (K:ai) (mg:Str->Option aA):Prop extends Txt4 K mg where
 nZip:mg "zip"=none
 wrd:∃t,mg "WORDS"=some (.int 4294967296 t)
 c1:∃t,mg "BOUND_PASSED"=some (.int (-1) t)
 c2:∃t,mg "NOT_FITTING"=some (.int (-2) t)
 c3:∃t,mg "NO_KIND"=some (.int (-3) t)
 c4:∃t,mg "TOO_MANY_ROWS"=some (.int (-4) t)
 c5:∃t,mg "NO_SUCH_ROW"=some (.int (-5) t)
 c6:∃t,mg "TOO_FEW_WORDS"=some (.int (-6) t)
 c9:∃t,mg "NO_ROW_OF_THE_KIND"=some (.int (-9) t)
 most:∃t,mg "MOST_ROWS_AT_ONCE"=some (.int 20 t)
 flim:∃t,mg "FAIR_LIMIT"=some `m7'
 lastk:∃t,mg "LAST_KIND"=some (.int 5 t)
 lsize:∃t,mg "LARGEST_SIZE"=some (.int 3 t)
 llong:∃t,mg "LONGEST_TOGETHER"=some (.int 20 t)
 rlim:∃t,mg "ROWS_LIMIT"=some `m7'
def S3:Sp:=fun vs H Q _=>∃(a:ak) (l:List Nat),vs=`eH'/\H a=some (.lst `bR')/\Q (nV (joined l)) H
abbrev RZ:List Str:=["drawn","number","word"]
def yt:bY RZ ["drawn"] (aw A4):=`dl
def xN (x:Nat) (l:List Nat):joined (x::l)=joined l*4294967296+x:=by
 rw[oM,jh];rfl
def O6 {f:ak} {fd:aH} (F:nv K "as_one" "as_one" A4 f fd) (T:Txt5 K mg):bT P w K mg base dj 1 f fd ["drawn"] S3:=by
 refine F.ok yt `ST `LE
 ·obtain⟨a,l,rfl,_⟩:=h;rfl
 ·obtain⟨a,l,rfl,ha,q⟩:=h;obtain⟨tw,hw⟩:=T.wrd;refine⟨_,am (`oo' yt.nd rfl `Cl aC)
   (am (mf cD rfl (xu `IO T.nRev `aM') (cp (i:=2) yt.nd rfl `Cl)
    (aG (`oo' yt.nd rfl `Cl (cJ gx (cJ AU (pv 1) (bQ (v:=.int 4294967296) `IO hw #[tw,rfl])) (pv 2)))))
   (aG (aY (pv 1)))),?_⟩
  have fY:(l.map nV).length=l.length:=ae ..;refine#[_,rfl,a,_,rfl,SqL.of ha,Jt (K:=K) rfl (fun i σ H'=>∃o2:Option V,σ=[some `bu',some (nV (joined (l.drop (l.length - i)))),o2]/\H'=H) #[none,by rw[iC,fx];rfl,rfl] (fun i σ H' _ ⟨_,_,e⟩=>by rw[e];exact SqL.of ha) ?_ ?_]
  ·rintro i x σ H' hi hx ⟨o2,rfl,rfl⟩;rw[fY] at hi hx;rw[aR] at hx;obtain⟨y,hy,rfl⟩:=fw.mp hx;obtain⟨h1,h2⟩:=bd.mp hy;refine#[_,rfl,_,_,rfl,rfl,.inr #[by decide,by decide],_,rfl,_,_,rfl,rfl,some (nV y),?_,rfl];rw[show l.length - (i+1)=l.length - 1 - i by omega,eJ h1,h2,xN,show l.length - 1 - i+1=l.length - i by omega];rfl
  ·rintro σ H' ⟨o2,rfl,rfl⟩;rw[fY,lc,fZ];exact#[_,rfl,q]
def EI {n:Nat} (h:n<=2^62):(wordsFor n=0/\n<=1)\/(wordsFor n=1/\1<n/\n<=4294967296)\/(wordsFor n=2/\4294967296<n):=by
 have e0:WORD^0=1:=rfl;have e1:WORD^1=4294967296:=rfl;have e2:WORD^2=18446744073709551616:=rfl;show 105
 unfold wordsFor;rw[show List.range 3=[0,1,2] from rfl];by_cases h0:n<=1
 ·refine .inl #[?_,h0];rw[mH (by rw[e0];exact bp h0)];rfl
 ·rw[List.find?_cons_of_neg (by rw[e0];simpa using h0)];by_cases h1:n<=4294967296
  ·refine .inr (.inl #[?_,by omega,h1]);rw[mH (by rw[e1];exact bp h1)];rfl
  ·rw[List.find?_cons_of_neg (by rw[e1];simpa using h1),mH (by rw[e2];exact bp `mt)];exact .inr (.inr #[rfl,by omega])
def VQ:Sp:=fun vs H Q _=>∃(a:ak) (n:Nat) (l:List Nat),vs=[nV n,.ref a]/\H a=some (.lst `bR')/\1<=n/\n<=2^62/\l.length<=sizeLine/\
 (Wqarao.fair n `fR' 0 l=none->∀H',aM H H'->Q .non H')/\∀x,Wqarao.fair n `fR' 0 l=some x->∀(H':Hp) (t:ak),aM H H'->H' t=some (.tup [nV x.1,nV x.2])->Q `h2' H'
abbrev Wb:List Str:=["n","drawn","width","bound","taken","product"]
def tI:bY Wb `fd' (aw Ki):=`dl
def Cm (n f u:Nat) (l:List Nat):Wqarao.fair n (f+1) u l=if l.length<wordsFor n then none else match try_ n (WORD^wordsFor n) (joined `jS') with
 |some i=>some (i,u+wordsFor n)
 |none=>Wqarao.fair n f (u+wordsFor n) (l.drop (wordsFor n)):=rfl
def KE {f fO:ak} {fd fdO:aH} (F:nv K "fair_number" "fair_number" Ki f fd) (T:Txt5 K mg) (S:ub K mg "as_one" A4 fO fdO ["drawn"]):bT P w K mg base dj 2 f fd `fd' VQ:=by
 refine F.ok tI `ST `LE
 ·obtain⟨a,n,l,rfl,_⟩:=h;rfl
 ·obtain⟨a,n,l,rfl,ha,hn1,Ww,Rk,qn,qs⟩:=h;obtain⟨tw,hw⟩:=T.wrd;refine⟨_,am (`n1' tI.nd rfl `Cl aC)
   (am (`n2' tI.nd rfl `Cl aC)
   (am (tK cD (bb (v0 (pv 3) (pv 0)))
    (am (uG (i:=2) tI.nd rfl `Cl aC A7) (aG (uG (i:=3) tI.nd rfl `Cl (bQ (v:=.int 4294967296) `IO hw #[tw,rfl]) U9))))
   (am (`n9' tI.nd rfl `Cl aC)
   (am (tK cD (bb (JC (cJ gx (pv 4) (pv 2)) (dq eu `IO T.nLen cY `aN')))
    (am (`n7' tI.nd rfl `Cl (cJ AU (`nU' (O6 (P:=P) (w:=w) (base:=base) S.fn T) hr `IO S.g S.k S.b .nil b9 (aa (`oa' (pv 1) (im (pv 4)) (im (cJ gx (pv 4) (pv 2)))) aB)) (pv 0)))
    (am (uG (i:=4) tI.nd rfl `Cl (pv 2) A7)
    (aG (cC (bb (sO (cJ Dm (pv 5) (pv 3)) (cJ Dm (pv 3) (pv 0)))) (aG (aY (eP (aa (cJ Oc (pv 5) (pv 3)) `cO')))) br)))))
   (aG (aY iU)))))),?_⟩
  have Zf:=EI Ww;generalize hwd:wordsFor n=wd at Zf;have aaR:∀k,WORD^(k+1)=WORD^k*4294967296:=fun k=>oK ..;have hW:∀k,((WORD^k:Nat):Int)*4294967296=((WORD^(k+1):Nat):Int):=fun k=>by rw[aaR];rfl
  refine#[fun μ σ H'=>∃k,μ=wd - k/\k<=wd/\σ=[some (nV n),some `bu',some (nV k),some (nV (WORD^k)),none,none]/\H'=H,#[wd,0,rfl,aN _,rfl,rfl],?_];rintro μ σ H' ⟨k,rfl,hk,rfl,rfl⟩;show 84
  ·have e:=af e;have e:WORD^k<n:=ji.mp e;have Tq:k<wd:=by
    rcases iD k wd with z|z
    ·exact z
    ·obtain rfl:k=wd:=by omega
     exfalso;rcases Zf with⟨rfl,h⟩| ⟨rfl,_,h⟩| ⟨rfl,h⟩
     ·show 169
     ·rw[show WORD^1=4294967296 from rfl] at e;omega
     ·rw[show WORD^2=18446744073709551616 from rfl] at e;show 105
      omega
   refine#[fun σ' Rn=>σ'=[some (nV n),some `bu',some (nV (k+1)),some (nV (WORD^(k+1))),none,none]/\Rn=H',fun σ' Rn ⟨e1,e2⟩=>#[wd - (k+1),by omega,k+1,rfl,Tq,e1,e2],?_];refine#[_,rfl,_,_,rfl,rfl,_,rfl,_,_,rfl,rfl,.inr #[by decide,by decide],?_,rfl];rw[hW];rfl
  have e:=aj e;have e:n<=WORD^k:=by
   have:=Int.not_lt.mp e;exact mJ.mp this
  obtain rfl:k=wd:=by
   rcases Zf with⟨rfl,h⟩| ⟨rfl,h,_⟩| ⟨rfl,h⟩
   ·omega
   ·rcases iD k 1 with z|z
    ·obtain rfl:k=0:=by omega
     show 169
    ·omega
   ·rcases iD k 2 with z|z
    ·have:WORD^k<=WORD^1:=g9 `KK `mt;rw[show WORD^1=4294967296 from rfl] at this;omega
    ·omega
  have hB:0<WORD^k:=Nat.pow_pos `KK;have hBi:(0:Int)< ((WORD^k:Nat):Int):=ji.mpr hB;have Tw:(0:Int)< ((n:Nat):Int):=by omega
  have abS:(((WORD^k:Nat):Int)).natAbs.log2<9000:=by
   rcases Zf with⟨rfl,_⟩| ⟨rfl,_⟩| ⟨rfl,_⟩<;>decide
  refine⟨fun μ σ H2=>∃(tk fu:Nat) (o5:Option V),μ=l.length+1 - tk/\tk<=l.length/\l.length+1<=fu+tk/\σ=[some (nV n),some `bu',some (nV k),some (nV (WORD^k)),some (nV tk),o5]/\aM H' H2/\Wqarao.fair n `fR' 0 l=Wqarao.fair n fu tk (l.drop tk),
   #[l.length+1,0,l.length+1,none,rfl,aN _,by omega,rfl,aM.refl _,by rw[fZ]],?_⟩
  rintro μ σ H2 ⟨tk,fu,o5,rfl,htk,hfu,rfl,s2,vf⟩;obtain⟨fu,rfl⟩:∃f,fu=f+1:=#[fu - 1,by omega]
  rw[Cm n fu tk (l.drop tk),hwd,b6] at vf;refine#[_,rfl,_,rfl,_,_,rfl,rfl,_,rfl,a,_,rfl,.inl (SqL.of `hU'),((tk+k:Nat):Int),(l.length:Int),rfl,by rw[ae],_,rfl,az `A' fun e=>?_]
  ·have e:=af e;have e:tk+k<=l.length:=mJ.mp e;rw[au `mt] at vf;refine#[fun σ' H3=>∃o5,σ'=[some (nV n),some `bu',some (nV k),some (nV (WORD^k)),some (nV (tk+k)),o5]/\aM H' H3/\1<=k/\Wqarao.fair n `fR' 0 l=Wqarao.fair n fu (tk+k) (l.drop (tk+k)),fun σ' H3 ⟨o5,e1,e2,e3,e4⟩=>#[l.length+1 - (tk+k),by omega,tk+k,fu,o5,rfl,e,by omega,e1,e2,e4],?_];refine#[_,rfl,_,rfl,_,rfl,_,rfl,_,rfl,_,_,rfl,rfl,((tk+k:Nat):Int),rfl,a,_,rfl,SqL.of `hU',fun p hp=>?_];rw[yk e];refine#[p,_,rfl,aq,_,rfl,((joined ((l.drop tk).take k):Nat):Int),(n:Int),rfl,rfl,.inr #[by omega,?_],?_]
   ·show 105
    have NF:(2:Int)^64=18446744073709551616:=by decide
    rw[NF];omega
   have s3:aM H' (bO H2 p `kh'):=s2.trans `fQ';generalize bO H2 p `kh'=H3 at s3⊢
   generalize joined ((l.drop tk).take k)=x at vf⊢
   refine#[_,rfl,_,rfl,_,_,rfl,rfl,_,rfl,_,rfl,((x*n:Nat):Int),_,rfl,rfl,hBi,_,rfl,_,rfl,_,_,rfl,rfl,Tw,((x*n%WORD^k:Nat):Int),((WORD^k%n:Nat):Int),rfl,rfl,_,rfl,az `A' fun e=>?_]
   ·have e:=af e;have e:=mJ.mp e;have ht:try_ n (WORD^k) x=some (x*n/WORD^k):=au `mt;rw[ht] at vf;refine#[_,rfl,_,rfl,((x*n:Nat):Int),_,rfl,rfl,#[hBi,abS],_,rfl,by show 2<=sizeLine;decide,fun t htt=>?_];exact qs _ vf _ t (s3.trans (aM.new htt)) aq
   ·have e:=aj e;have e:x*n%WORD^k<WORD^k%n:=ji.mp `mf';have ht:try_ n (WORD^k) x=none:=aD e;rw[ht] at vf;refine#[_,rfl,s3,?_,by rw[vf,mI]];rcases Zf with⟨rfl,h⟩| ⟨rfl,_⟩| ⟨rfl,_⟩
    ·obtain rfl:n=1:=by omega
     show 169
    ·exact ax _
    ·decide
  ·have e:=aj e;have e:l.length<tk+k:=ji.mp `mf';rw[aD `mt] at vf;exact qn vf H2 s2
section
def IC {α:Type} {l:List α} {i:Nat} {x:α} (h:l[i]? =some x):l.take (i+1)=l.take i++[x]:=by rw[kN,h];rfl
def Li (M:Nat) (c:List Nat):List Nat:=(c++replicate M 0).take M
def RH {K:ai} {H:Hp} {a b:ak} {c d:List Nat} {Q:VK} (ha:H a=some `iu') (hb:H b=some (.tup (d.map nV))) (hz:c.length+d.length<=sizeLine) (q:∀(H':Hp) (p:ak),aM H H'->H' p=some (.tup ((c++d).map nV))->Q `dR' H'):sQ K `bu' `i4' H Q:=by
 refine#[a,b,_,_,rfl,rfl,iX.of ha,iX.of hb,by rw[ae,ae];exact hz,fun e=>?_,fun _ e=>?_,fun _ _ p hp=>?_]
 ·have e:c=[]:=jw.mp e;subst e;exact q H b `M' hb
 ·have e:d=[]:=jw.mp e;subst e;rw[bU] at q;exact q H a `M' ha
 ·rw[<-bj];exact q _ p `fQ' aq
def Fm {xs:List ak} {x:ak}:ou ((xs++[x]).map V.ref) none (some (-1))=xs.map V.ref:=by
 unfold ou;have hl:((xs++[x]).map V.ref).length=xs.length+1:=by rw[ae,aE];rfl
 have e:HT.sIx `mh' `mh' (some (-1))=xs.length:=by
  show(if(-1:Int)<0 then((-1:Int)+((xs.length+1:Nat):Int)).toNat else min (-1:Int).toNat `mh')=_;rw[aD `KK];omega
 rw[hl,HT.sIx_none,e,fZ,iC,bj,List.take_append_of_le_length `f5',cS `f5']
def Kh {α β:Type} {R:α->β->Prop} {l:List α} {m:List β} (p:Paired R l m) (f:α->V):(l.zip m).map `k9'=l.map f:=by
 rw[show(fun z:α×β=>f z.1)=f∘fst from rfl,<-eK,(pN p).1]
def aaA (C:ak):Sp:=fun vs H Q _=>∃(r:ak) (M n L z:Nat) (G:List (List (List Nat))) (m:Nat),vs=[.ref r,nV M]/\Si C H r n L z G m/\M<=20/\
 ∀(H':Hp) (l:ak) (as:List ak),aM H H'->H l=Option.none->H' l=some `aq'->Paired (fun b ly=>k4 H' b ly) as `mL'->Q `cp' H'
abbrev ZM:List Str:=["kind","letters","added","layers","layer","node"]
def BY:bY ZM `eA' (aw Mf):=`dl
def Ei {f C:ak} {fd:aH} (F:nv K "fit_letters" "fit_letters" Mf f fd) (KC:oQ K C) (T:Txt5 K mg):bT P w K mg base dj 1 f fd `eA' (aaA C):=by
 refine F.ok BY `ST `LE
 ·obtain⟨r,M,n,L,z,G,m,rfl,_⟩:=h;rfl
 ·obtain⟨r,M,n,L,z,G,m,rfl,hK,hM,q⟩:=h;obtain⟨⟨dx,la,wa,oA,qB,h1,h2,h3,h4,h5,h6⟩,g,hn,hm,UF,Ur,_⟩:=id hK;obtain⟨td,gu⟩:=T.dead;have big:100<sizeLine:=by decide
  refine⟨_,am (`n1' BY.nd rfl `b0' (cJ (r:=Fg K) yz (eP (aa (`nX' `IO gu ⟨td,rfl⟩) aB)) (pv 1)))
   (am (`n2' BY.nd rfl `Cl `l6')
   (am (mf cD rfl (iF (`oa' `XV lU (im `nd'))) (cp (i:=4) BY.nd rfl `Cl)
    (aG (gZ (nZ bu bX bW gN (pv 3) (aa (jN (own:=[("node",5)]) rfl BY.nd `hS' (di `IO) (fun _ _ _ _ _=>cp (i:=5) BY.nd rfl `Cl) `aw'
     (fun _ _ _ _ _=>iB (r:=KB K) J0 (`of' (pv 5) (pv 2)) lU (im (pv 1)))) aB)))))
   (aG `jA'))),?_⟩
  subst hn;refine `il';have s0:aM H (bO H p0 `j0'):=aM.new GX;have e0:(bO H p0 `j0') p0=some `j0':=aq;generalize bO H p0 `j0'=H0 at s0 e0⊢
  refine#[_,rfl,yj (K:=K) e0 (aU hM `KK) fun ad H1 s1 had=>?_];have had:H1 ad=some (.tup ((replicate M 0).map nV)):=by rw[l5];exact had
  refine#[aN _,fun q0 uh=>?_];have s2:aM H1 (bO H1 q0 `bo'):=aM.new uh;have e2:(bO H1 q0 `bo') q0=some `bo':=aq;have UL:H q0=Option.none:=s0.free (s1.free uh);generalize bO H1 q0 `bo'=H2 at s2 e2⊢
  have s02:aM H H2:=s0.trans (s1.trans s2);obtain⟨qL,lx,rfl,_,Ng⟩:=qx h3;refine#[_,rfl,r,C,dx,_,_,rfl,s02 _ _ h1,KC.cl,KC.f5,rfl,1,rfl,_,rfl,la,_,rfl,SqL.of (s02 _ _ h2),fun sl S9=>?_];rw[Fm];have s3:aM H2 (bO H2 sl `gp'):=aM.new S9;have e3:(bO H2 sl `gp') sl=some `gp':=aq;have abZ:sl≠q0:=(a9 e2 S9).symm;generalize bO H2 sl `gp'=H3 at s3 e3⊢
  have s03:aM H H3:=s02.trans s3;have aaZ:=s3 _ _ (s2 _ _ had);have abn:ad≠q0:=a9 had uh;refine⟨sl,rfl,⟨_,SqL.of e3⟩,pI (K:=K) (a:=sl) (xs:=qL.map V.ref) (fun i σ H'=>∃(o4:Option V) (as:List ak),σ=[some `bd',some (nV M),some (.ref ad),some `h1',o4,none]/\cn q0 H3 H'/\H' q0=some `aq'/\
   Paired `my' as ((G.take i).map fun ly=>ly.map (Li M)))
   #[none,[],rfl,fun b o e _=>e,s3 _ _ e2,.nil] (fun i σ H' _ ⟨_,_,_,k,_⟩=>SqL.of (k _ _ e3 abZ)) ?_ ?_⟩
  ·rintro i x σ H' hi ⟨o4,as,rfl,kb,hq,hP⟩;obtain⟨b,hb,rfl⟩:=wT hi;obtain⟨ly,NA,bs,Eu,QH⟩:=fE Ng hb;have kH:∀c o,H c=some o->H' c=some o:=fun c o e=>kb c o (s03 _ _ e) (a9 e UL);have wv:=(bd.mp NA).1;have aa8:ly∈G:=aQ NA;have abw:G.getD i []=ly:=by rw[ay,NA];rfl
   have fY:∀c∈ly,c.length=L:=by rw[<-abw];exact(uX g wv).len
   have WM:as.length<=1000:=by
    have:=bH hP;rw[ae,be] at this;omega
   obtain⟨z1,z2,z3⟩:=pN QH;have CV:H' b=some (.lst ((bs.zip ly).map fun z=>V.ref z.1)):=by rw[Kh QH V.ref];exact kH _ _ Eu
   refine⟨_,rfl,.inl ⟨rfl,_,SqL.of hq⟩,_,rfl,b,rfl,⟨_,SqL.of CV⟩,fun D hD=>O9 (R:=fun H4 v (z:ak×List Nat)=>∃t,v= .ref t/\H4 t=some (.tup ((Li M z.2).map nV))) (p:=fun _=>true) (fun _ _ _ _ ⟨t,e,h⟩ k=>⟨t,e,k _ _ h⟩) CV hD (by
    have:=dH List.length z2;rw[ae] at this;rw[this];exact bG (h6 _ aa8) `KK) `mR' fun H4 ys s4 Jd UZ=>?_⟩
   ·have hyc:y.2∈ly:=by rw[<-z2];exact aV.mpr #[y,hy,rfl]
    refine#[rfl,_,rfl,_,rfl,RH (K:=K) (s4 _ _ (kH _ _ (z3 y hy))) (s4 _ _ (kb _ _ aaZ abn)) (by rw[fY _ hyc,bo];omega) fun H5 p s5 KL=>#[_,rfl,_,rfl,N3 KL fun H6 p6 s6 hp6=>?_]];exact tk rfl H6 _ `jo' #[p6,rfl,hp6]
   ·rw[ik] at UZ;obtain⟨ts,ets,hts⟩:∃ts:List ak,ys=ts.map V.ref/\Paired (fun t (c:List Nat)=>H4 t=some `iu') ts (ly.map (Li M)):=by
     rw[<-z2,eK];clear Jd CV z1 z2 z3;generalize bs.zip ly=zs at UZ
     induction UZ with
     |nil=>exact#[[],rfl,.nil]
     |cons h _ ih=>
      obtain⟨t,e,h⟩:=h;obtain⟨ts,e2,h2⟩:=ih;exact#[t::ts,by rw[e2,e];rfl,.cons h h2]
    subst ets;have hDq:D≠q0:=fun z=>by rw[z,hq] at hD;cases hD
    refine#[q0,_,_,rfl,rfl,s4 _ _ hq,by rw[ae];exact cO WM,some `i4',as++[D],rfl,fun c o e hc=>?_,by rw[aq,bj];rfl,?_]
    ·rw[aZ hc];exact s4 _ _ (kb _ _ e hc)
    ·rw[IC NA,bj];rw[J8];refine gH #[ts,by rw[i6 hDq];exact Jd,b4 (fun t c e=>?_) hts] (b4 `jC' hP)
     ·obtain⟨n1,n2⟩:=mP e;rw[i6 n1];exact s4 _ _ n2
     ·rw[i6 (eD e (s4 _ _ hq) `XL)];exact e
  ·rintro σ H' ⟨o4,as,rfl,kb,hq,hP⟩;have sJ:(qL.map V.ref).length=G.length:=by rw[ae,bH Ng]
   rw[sJ,eU] at hP;refine#[_,rfl,q H' q0 as (fun b o e=>kb _ _ (s03 _ _ e) (a9 e UL)) UL hq (b4 (fun c KM t=>k4.same t (fun b o e=>(mP e).2)) hP)]
end
abbrev vw:du:=my 66
abbrev Bc:du:=my 67
def acm {R:Hp->V->Nat×Nat->Prop} {p:Nat×Nat->Bool} {l:List Nat} {a:ak} {H1:Hp} {D:ak} {g:TG} {tt:TT} {te:TE} {vs:List Nat} {σ:L2.St} {Qd:Hp->Prop} (hR:uy R) (ha:H1 a=some (.tup `bR')) (hD:H1 D=Option.none) (hz:l.length<sizeLine)
 (t:∀(i:Nat),i<l.length->∀(H2:Hp) (T:ak) (NX:Hp->Prop),aM H1 H2->H2 T=some (.tup [nV i,nV `gQ'])->(p (i,l.getD i 0)=false->∀H4,aM H2 H4->NX H4)->
  (p (i,l.getD i 0)=true->∀H5 y,aM H2 H5->R H5 y (i,l.getD i 0)->∃cR,H5 D=some `cM'/\cR.length<sizeLine/\NX `au')->
  g (.ref T) `dJ' H2 fun σ2 H3=>ie σ2 vs=ie σ vs/\tt σ2 H3 fun b H4=>if b=true then te σ2 H4 fun y H5=>∃cR,H5 D=some `cM'/\cR.length<sizeLine/\NX `au' else NX H4)
 (hd:∀(H:Hp) (ys:List V),aM H1 H->H D=some `cC'->Paired (R H) ys ((Dh l).filter p)->Qd H):TN (Vt a) g tt te vs σ H1 D Qd:=by
 have NL:(Dh l).length=l.length:=by
  unfold Dh;rw[ae,bv]
 refine `dm';rintro i m H ⟨rfl,hi,I⟩;have hs:=I.1 _ _ ha;by_cases jB:i<l.length
 ·have hx:(Dh l)[i]? =some (i,l.getD i 0):=by
   unfold Dh;rw[aR,eZ jB];rfl
  refine .inr #[#[_,nV `gQ',hs,jM jB],nE R p (Dh l) H1 D (i+1),fun H' I'=>`jG',fun v H' y=>?_];show 106;rw[jM jB] at Bf;have Bf:nV `gQ'=x:=aP Bf;show 54;have I':nE R p (Dh l) H1 D i (bO H T `aj'):=`bV'
  show 26;rw[aq,<-Bf]
 ·obtain rfl:i=l.length:=by omega
  refine .inl #[#[_,hs,by rw[ae]],?_];rw[<-NL] at I;show 48
def NU (c:List Nat):(Dh c).filter (fun z=>decide (z.2≠0))=um c:=by
 rw[B2 (fun y=>decide (y≠0))];rfl
def PB:Sp:=fun vs H Q _=>∃(a:ak) (c:List Nat),vs=`eH'/\(H a=some `iu'\/H a=some (.lst (c.map nV)))/\c.length<=20/\∀(H':Hp) (l:ak),aM H H'->H l=Option.none->MvL C9 H' l (um c)->Q `cp' H'
abbrev PQ:List Str:=["children","x","child"]
def pS:bY PQ `kw' (aw vw):=`dl
def Cq {f:ak} {fd:aH} (F:nv K "living" "living" vw f fd) (T:Txt5 K mg):bT P w K mg base dj 1 f fd `kw' PB:=by
 refine F.ok pS `ST `LE
 ·obtain⟨a,c,rfl,_⟩:=h;rfl
 ·obtain⟨a,c,rfl,ha,hc,q⟩:=h;obtain⟨td,gu⟩:=T.dead;rcases ha with ha|ha
  ·refine⟨_,aG (aY (`n5' rfl pS.nd (OM `IO T.nEnum `aM') (di `IO) (fun _ _ _ _ _=>uE rfl (jm (cp (i:=1) pS.nd rfl `Cl) (jm (cp (i:=2) pS.nd rfl `Cl) r6)))
    (fun _ _ _ _ _=>jA (bb (l8 (pv 2) (`nX' `IO gu `g9')))) (fun _ _ _ _ _=>eP (aa (pv 1) `aC')))),?_⟩
   refine#[_,rfl,a,_,rfl,ha,fun D hD=>acm (R:=RM C9 fun z=>z) (p:=fun z=>decide (z.2≠0)) j9 ha hD (cO `mt) `ff' fun H' ys s' nh hp=>?_]
   ·show 99
    ·show 44;exact `ao'
    ·show 44;show 75
   ·show 28;rw[NU,oN]
  ·refine⟨_,aG (aY (`n5' rfl pS.nd (vj `IO T.nEnum `aM') (di `IO) (fun _ _ _ _ _=>uE rfl (jm (cp (i:=1) pS.nd rfl `Cl) (jm (cp (i:=2) pS.nd rfl `Cl) r6)))
    (fun _ _ _ _ _=>jA (bb (l8 (pv 2) (`nX' `IO gu `g9')))) (fun _ _ _ _ _=>eP (aa (pv 1) `aC')))),?_⟩
   refine#[_,rfl,a,_,rfl,SqL.of ha,fun D hD=>lcE (R:=RM C9 fun z=>z) (p:=fun z=>decide (z.2≠0)) j9 ha hD (cO `mt) `ff' fun H' ys s' nh hp=>?_]
   ·show 99
    ·show 44;exact `ao'
    ·show 44;show 75
   ·show 28;rw[NU,oN]
def Sn:bY `jq' `jq' (aw Bc):=`dl
def Ff {f:ak} {fd:aH} (F:nv K "is_alive" "is_alive" Bc f fd) (T:Txt5 K mg):bT P w K mg base dj 3 f fd `jq' (fun vs H Q _=>∃m:Nat,vs=[nV m]/\Q (.bl (m != 0)) H):=by
 refine F.ok Sn `ST `LE
 ·obtain⟨m,rfl,_⟩:=h;rfl
 ·obtain⟨m,rfl,q⟩:=h;obtain⟨td,gu⟩:=T.dead;refine⟨_,aG (aY (mn (l8 (pv 0) (`nX' `IO gu ⟨td,rfl⟩)))),?_⟩;refine⟨_,rfl,_,_,rfl,rfl,?_⟩;show Q (.bl (`K' (m:Int) 0)) H;rw[show `K' (m:Int) 0=(m != 0) by
   show(!decide ((m:Int)=0))= !(m==0)
   congr 1
   exact b5.mpr `F']
  exact q
abbrev oP:du:=my 65
structure oG (kd:aT):Prop where
 cv:RR.Cv kd
 len:kd.len<=20
 let_:kd.letters<=20
 size:kd.size<=3
def KD (C:ak) (H:Hp) (r:ak) (kd:aT):Prop:=oG kd/\∃G m,eO C H r kd.len kd.letters kd.size G m/\KG kd.len kd.letters `kY' G m
def KD.same {C:ak} {H H':Hp} {r:ak} {kd:aT} (k:KD C H r kd) (s:aM H H'):KD C H' r kd:=let⟨g,G,m,h1,h2⟩:=k;#[g,G,m,h1.same s,h2]
def T0 (KA:rs) (T:ak) (defs:List `ap') (H:Hp) (Q:VK) (kd:aT):Prop:=
 ∀(H':Hp) (r:ak) (G:List (List (List Nat))) (m:Nat),cn T H H'->cw H' T defs->H r=Option.none->KA H' r kd.len kd.letters kd.size G m->KG kd.len kd.letters `kY' G m->Q `bd' H'
def k4.but {H H':Hp} {T a:ak} {defs:List `ap'} {cs:List `at'} (t:k4 H a cs) (h:cw H T defs) (k:cn T H H'):k4 H' a cs:=by
 obtain⟨ps,hp,_⟩:=h;obtain⟨as,h1,h2⟩:=t;show 140
def eO.but {C:ak} {H H':Hp} {T r:ak} {defs:List `ap'} {n L z:Nat} {G:List `Id} {m:Nat} (x:eO C H r n L z G m) (h:cw H T defs) (k:cn T H H'):eO C H' r n L z G m:=by
 obtain⟨ps,hp,_⟩:=id h;obtain⟨dx,la,wa,oA,qB,h1,h2,h3,h4,h5,h6⟩:=x;exact#[dx,la,wa,oA,qB,k _ _ h1 (eD h1 hp `XL),k _ _ h2 (eD h2 hp `XL),b4 (fun b c t=>t.but h k) h3,k _ _ h4 (eD h4 hp `XL),b4 (fun b c e=>k _ _ e (eD e hp `XL)) h5,h6]
def xn {C:ak} {H:Hp} {r:ak} {n L z:Nat} {G:List `Id} {m:Nat} (k:eO C H r n L z G m) (i:Nat):cj `ar'<=rJ:=by
 obtain⟨_,_,_,_,_,_,_,_,_,_,h6⟩:=k;by_cases hi:i<G.length
 ·rw[nF hi];exact h6 _ (RR.getD_mem hi)
 ·rw[eL `mt];decide
def Ci {l:List Nat} {b:Nat} (nd:l.Nodup) (h:∀x∈l,x<b/\x≠0):l.length<b\/l=[]:=by
 cases l with
 |nil=>exact .inr rfl
 |cons x l=>
  left
  have hb:=h x `dG';have:=j2 (l:=0::x::l) (b:=b) (fk.mpr #[fun z=>(h 0 z).2 rfl,nd]) fun y hy=>by
   rcases bh.mp hy with e|e
   ·subst e;omega
   ·exact(h y e).1
  rw[aF] at this;omega
def BM {α:Type} {l:List α} {a:α} (nd:l.Nodup) (h:∀x∈l,x=a):l.length<=1:=vG (m:=[a]) nd fun x hx=>by rw[h x hx];exact aI ..
def Ak {κ:Type} [BEq κ] [LawfulBEq κ] {KA:rs} {P:bN} {w:cV} {K:ai} {mg:Str->Option aA} {M:Sk κ} {base:cZ} {vs:List V} {H:Hp} {Q:VK} {E:XK}
 (mv:Nat->κ->List `ax') (en:κ->Bool) (Iv:Nat->κ->Prop) (C:Hp->Prop) {n L z:Nat} {v:V} {s:κ} {fm fe:ak} {fd sm:aH} {pm pe:List Str} (Q2:vs=`b5') (wu:M.rep H v s) (lI:FnAt H fm fd) (hke:keepIn K (.ref fe)=true)
 (F:bT P w K mg base dj 3 fm fd pm `cA') (bF:fV K fd pm []) (FE:bT P w K mg base dj 3 fe sm pe (Jv M en (Iv n) fun _=>True)) (bE:fV K sm pe []) (hC:∀H H':Hp,aM H H'->C H->C H') (KR:C H) (hn:n<=20) (hL:L<=20) (WC:z<=3) (h0:Iv 0 s)
 (hI:∀i t,i<n->Iv i t->oY L `hB'/\∀x t',(x,t')∈mv i t->Iv (i+1) t') (hz:∀i (l:List κ),i<=n->l.Nodup->(∀t∈l,Iv i t)->l.length<rJ)
 (k:∀(H':Hp) (r:ak) (G:List (List (List Nat))) (m:Nat),aM H H'->H r=Option.none->KA H' r n L z G m->KG n L `fF' G m->Q `bd' H'):qm KA P w K mg M base vs H Q E:=by
 obtain⟨⟨fo,u,h1,h2⟩,_⟩:=id lI;exact⟨mv,en,Iv,_,fun _=>True,n,L,z,v,s,fm,fe,fo,u,fd,fd,sm,pm,pe,Q2,wu,⟨h1,h2⟩,.inr hke,F,bF,FE,bE,
  fun H H' s ⟨a,b⟩=>`ef',fun _ _ _ _=>trivial,#[lI,KR],trivial,hn,hL,WC,h0,hI,hz,k⟩
def IM {α β:Type} (q:β->Bool) (l:List (α×β)):(l.filter fun z=>q z.2).map snd=(l.map snd).filter q:=by rw[filter_map];rfl
def U1 {G:List `Id} {p:List Nat} {i m:Nat} (hi:i<p.length):vV G p i m=(um (gQ G i m)).filter fun z=>decide (z.1=p.getD i 0):=by
 unfold vV um;rw[filter_map,List.filter_filter]
 congr 1
 refine kr fun x _=>?_;rw[Bool.and_comm]
 congr 1
 rw[ay,ao hi];rw[cQ hi];exact b5.mpr #[fun h=>h.symm,fun h=>h.symm]
def RU {G:List `Id} {p:List Nat} {i m:Nat} (hi:p.length<=i):vV G p i m=um (gQ G i m):=by
 unfold vV um
 congr 1
 refine kr fun x _=>?_;rw[ay (l:=p),bc hi];simp
abbrev qV:List `ap':=[(lQ (eG oP 0),"begins.<locals>.moves")]
section
variable {fB fA:ak} {fdB fdA:aH}
def FD (C T:ak):Sp:=fun vs H Q _=>∃(r a:ak) (kd:aT) (p:List Nat),vs=`dz'/\KD C H r kd/\H a=some `it'/\p.length<=kd.len/\cw H T qV/\T0 (eO C) T qV H Q (.begins kd p)
def EO:bY ["a","p","moves"] `mW' (aw oP):=`dl
abbrev aay:List Str:=["place","node","a","p","all_moves","move"]
def vU:eR aay `fu' `mW' (aw (eG oP 0)):=`ld
def Lk {f c T C fL fI:ak} {fd fdL fdI:aH} (F:ox K "begins" "begins" oP f fd c T) (KC:oQ K C) (B:B5 (eO C) P w K mg fB fA fdB fdA) (X5:Txt5 K mg) (S:ub K mg "living" vw fL fdL `kw') (SA:ub K mg "is_alive" Bc fI fdI `jq'):bT P w K mg base dj 6 f fd `mW' (FD C T):=by
 refine F.ok EO `ST `B'
 ·obtain⟨r,a,kd,p,rfl,_⟩:=h;rfl
 ·obtain⟨r,a,kd,p,rfl,⟨Et,G,m,hK,hG⟩,ha,sI,hT,iY⟩:=h;obtain⟨dx,la,wa,oA,qB,h1,h2,h3,h4,h5,h6⟩:=id hK;obtain⟨g,Rm,hm,Th⟩:=hG;refine⟨_,am (jt (i:=2) (c:=c) (P:=T) (defs:=qV) (qual:="begins.<locals>.moves") rfl F.ck X5.blt `IO `BT `BT rfl rfl rfl (show ∀y∈(aw (eG oP 0)).names,y.2= .free->(aw oP).names.lookup y.1=some .cell\/(aw oP).names.lookup y.1=some .free by decide+kernel) EO.nd rfl `Cl)
   (aG (aY (`nY' B.okI hr `aS' `IO B.gB B.kB B.bB b9
    (aa `XV (aa `XV (aa `XV (aa `XV (aa (pv 2) (aa (bQ (v:=.ref fI) `IO SA.g rfl) aB))))))))),?_⟩
  refine⟨hT,fun fm fd H1 yG kb lF lI lW=>?_⟩;have kT:∀c o,H c=some o->(∀ps,o≠ .tbl ps)->H1 c=some o:=fun c o e n=>kb c o e (by
   obtain⟨ps,z,_⟩:=hT;exact eD e z (n ps))
  have e1:=kT _ _ h1 `bv';have ea:=kT _ _ ha `bv';have hK1:=hK.but hT kb;refine#[_,rfl,r,C,dx,_,_,rfl,e1,KC.cl,KC.f1,rfl,_,rfl,r,C,dx,_,_,rfl,e1,KC.cl,KC.f2,rfl,_,rfl,r,C,dx,_,_,rfl,e1,KC.cl,KC.f3,rfl,_,rfl,r,C,dx,_,_,rfl,e1,KC.cl,KC.f4,rfl,_,rfl,fun base gr=>?_];refine Ak (vV G p) `bW' (fun i t=>t<cj `ar'/\(0<i->t≠0)/\(i=0->t=m)) (fun H=>eO C H r kd.len kd.letters kd.size G m/\H a=some `it') (pm:=`fu') (pe:=`jq') rfl rfl lI SA.k ?_ ?_ ?_ SA.b (fun _ _ s z=>#[z.1.same s,s _ _ z.2]) #[hK1,ea] Et.len Et.let_ Et.size #[hm,fun z=>absurd z (dz _),fun _=>rfl] `eE' `jQ' fun H' r' G' m' s' qe MY vd=>?_
  ·show 1;refine g7 vU (fD (fvs:=`dz') gr [0,1] rfl rfl rfl `BT `BT (show ∀x∈_,(aw oP).names.lookup x=_ by decide+kernel)) `Ty `j' fun A outer s H vs Q E hr ⟨i,v,t,e,ht,⟨hi,uj,_⟩,⟨_,hC,hCa⟩,q⟩=>?_;show 15;obtain⟨dx,la,wa,oA,qB,h1,h2,h3,h4,h5,h6⟩:=id hC;have wv:i<G.length:=by omega
   refine⟨_,am (`n9' vU.nd rfl `Cl (`nU' `jy' (hr.mono `KK) `IO S.g S.k S.b .nil b9 (aa (`nV' (`nV' `eO' (pv 0) `Ch) (pv 1) `Ch) aB)))
    (am (cC (bb (sO (pv 0) (dq eu `IO X5.nLen cY `aY'))) (aG (aY (pv 4))) br)
    (aG (aY (jN (own:=[("move",5)]) rfl vU.nd `hS' (di `IO) (fun _ _ _ _ _=>cp (i:=5) vU.nd rfl `Cl)
     (fun _ _ _ _ _=>jA (bb (da (`nW' (pv 5) aC `Ch) (`nV' (pv 3) (pv 0) `Ch)))) `gt')))),?_⟩
   obtain⟨b,as,e1,e2,e3⟩:=AT h3 wv;obtain⟨tn,e4,e5⟩:=nL e3 (by rw[nF wv] at uj;exact uj);refine#[_,rfl,r,C,dx,_,_,rfl,h1,KC.cl,KC.f5,rfl,_,rfl,fG h2 (iu e1) #[_,rfl,fG e2 (iu e4) #[tn,gQ G i t,rfl,.inl e5,by rw[show(gQ G i t).length=kd.letters from mX g wv uj];exact Et.let_,fun H2 l s2 hl Wr=>?_]]];refine#[_,rfl,_,rfl,a,_,rfl,.inl (SqL.of (s2 _ _ hCa)),i,p.length,rfl,by rw[ae],_,rfl,az (fun e=>#[_,rfl,q H2 l s2 hl ?_]) fun e=>?_]
   ·have e:=af e;rw[RU (mJ.mp e)];exact Wr
   ·have e:=aj e;have hip:i<p.length:=ji.mp `mf';obtain⟨XA,tO,Ey⟩:=Wr;obtain⟨z1,z2,z3⟩:=pN Ey;have QU:H2 l=some (.lst ((XA.zip (um (gQ G i t))).map fun z=>V.ref z.1)):=by rw[Kh Ey V.ref];exact tO
    refine⟨_,rfl,l,rfl,⟨_,SqL.of QU⟩,fun D hD=>O9 (R:=RM C9 (snd:ak×`cq'->Nat×Nat)) (p:=fun z=>decide (z.2.1=p.getD i 0)) j9 QU hD (cO (by
     rw[i9];have h1:(um (gQ G i t)).length<=(gQ G i t).length:=by
      unfold um;rw[ae];exact aU (fc ..) (by rw[bv];exact ax _)
     have h2:(gQ G i t).length=kd.letters:=mX g wv uj;have:=Et.let_;omega)) `mR' fun H4 ys s4 Jd UZ=>?_⟩
    ·obtain⟨vv,WD,hv2⟩:=z3 y hy;have WD:=s4 _ _ WD;refine#[rfl,_,rfl,y.1,_,0,nV y.2.1,rfl,rfl,iX.of WD,bx (j:=0) rfl,_,rfl,_,rfl,fG (s4 _ _ (s2 _ _ hCa)) (jM hip) #[_,_,rfl,rfl,_,rfl,az `A' fun e=>?_]]
     ·show 112;exact#[_,rfl,tk e _ _ `M' #[y.1,vv,rfl,WD,hv2]]
     ·show 112;show 75
    ·refine q H4 D (s2.trans s4) (s2.free hD) (nb Jd UZ ?_);rw[IM (fun z:Nat×Nat=>decide (z.1=p.getD i 0)),z2,U1 hip]
  ·show 1;exact .all fun us hl=>match us,hl with| [_,_],_=>rfl
  ·show 104
  ·refine hX `l5' fun x hx=>?_;have:=aL.mp (aO.mp hx).1;rw[show(gQ G i t).length=kd.letters from mX g `mt sE.1] at this;exact this
  ·show 159;have:=(aO.mp hy).2;rw[aX] at this;exact#[sg g `mt sE.1,fun _=>af this.1,fun z=>absurd z (qN _)]
  ·rcases iO i with z|z
   ·exact oy (aU `lK' `KK)
   ·rcases Ci nd `jf' with e|e
    ·exact bD e (xn hK i)
    ·rw[e];decide
  ·refine iY H' r' G' m' `kp' `fW' `fq' MY `bc';show 213;show gY (vV G p) `bW' 0 m r=_;have:=FZ g p r 0 m (by rw[cE,Rm];exact hr) hm;rw[this,xz];show(il p r&&cx G m r)=_;rw[Th r hr]
end
abbrev vA:du:=my 64
abbrev wO:List `ap':=[(lQ (eG vA 2),"then.<locals>.moves")]
def DM {a b:Nat}:(if(b:Int)>(a:Int) then(b:Int) else(a:Int))=((max a b:Nat):Int):=by
 split<;>omega
def Km {a b:Nat}:`ih'=((min a b:Nat):Int):=by
 split<;>omega
section
variable {fB fA:ak} {fdB fdA:aH}
def OC {C dx ra cr la wa:ak} {n L z m mb tot:Nat} {σ:L2.St} {H:Hp} {Q:VK} (KC:oQ K C) (h0:σ[0]? =some (some (.ref ra))) (h3:σ[3]? =some (some (.ref cr))) (hra:H ra=some (.ins C dx (yA n L z m la wa tot))) (hcr:H cr=some `cD') (hm:n=0->m<2) (q:Q (nV (sS n m mb)) H):
 tIf (tB (tGt (Sc K (oX 0) "length") (tC (.int 0)))) (Sc K (oX 0) "root") (QS (mi K) (oX 3) (Sc K (oX 0) "root")) σ H Q:=by
 refine#[_,h0,ra,C,dx,_,_,rfl,hra,KC.cl,KC.f1,rfl,n,0,rfl,rfl,_,rfl,az `A' fun e=>?_]
 ·have e:=af e;refine#[_,h0,ra,C,dx,_,_,rfl,hra,KC.cl,KC.f4,rfl,?_];unfold sS at q;rw[aD `mt] at q;exact q
 ·have e:=aj e;have hn:n=0:=by omega
  unfold sS at q;rw[au `mt] at q;refine#[_,h3,_,h0,ra,C,dx,_,_,rfl,hra,KC.cl,KC.f4,rfl,wX hcr ?_ q];have:=hm hn;rcases iO m with z|z
  ·subst z;rfl
  ·obtain rfl:m=1:=by omega
   rfl
def OX (C T:ak):Sp:=fun vs H Q _=>∃(ra rb:ak) (ka kb:aT),vs=`d1'/\KD C H ra ka/\KD C H rb kb/\ka.size+kb.size<=3/\ka.len+kb.len<=20/\cw H T wO/\T0 (eO C) T wO H Q (.then_ ka kb)
abbrev VZ:List Str:=["a","b","layers","crossing","moves","start","letters"]
def wK:bY VZ `cg' (aw vA):=`dl
abbrev aaC:List Str:=["place","node","layers","a","crossing","children","child"]
def Du:eR aaC `fu' ["layers","a","crossing"] (aw (eG vA 2)):=`ld
structure Ld (C:ak) (H:Hp) (ra lz cr:ak) (na La za:Nat) (Ga Gb:List `Id) (ma mb:Nat):Prop where
 a:eO C H ra na La za Ga ma
 lz:∃l1 l2:List ak,H lz=some (.lst ((l1++l2).map V.ref))/\Paired `dD' l1 Ga/\Paired `dD' l2 (Px Gb)
 cr:H cr=some `cD'
def Ld.same {C:ak} {H H':Hp} {ra lz cr:ak} {na La za:Nat} {Ga Gb:List `Id} {ma mb:Nat} (x:Ld C H ra lz cr na La za Ga Gb ma mb) (s:aM H H'):Ld C H' ra lz cr na La za Ga Gb ma mb:=by
 obtain⟨h1,⟨l1,l2,h2,h3,h4⟩,h5⟩:=x;exact#[h1.same s,#[l1,l2,s _ _ h2,b4 `fp' h3,b4 `fp' h4],s _ _ h5]
def R5 (Ga Gb:List `Id) (i:Nat):List `at':=if i<Ga.length then Ga.getD i [] else Gb.getD `nS' []
def OW {C:ak} {H:Hp} {ra lz cr:ak} {na La za:Nat} {Ga Gb:List `Id} {ma mb:Nat} (x:Ld C H ra lz cr na La za Ga Gb ma mb) {i:Nat} (hi:i<Ga.length+Gb.length):∃(ls as:List ak) (b:ak),H lz=some (.lst (ls.map V.ref))/\ls[i]? =some b/\H b=some `aq'/\Paired `ad' as (R5 Ga Gb i):=by
 obtain⟨_,⟨l1,l2,h2,h3,h4⟩,_⟩:=x;have e1:=bH h3;unfold R5;by_cases c:i<Ga.length
 ·obtain⟨ly,e,as,e2,e3⟩:=fE h3 (ao (show i<l1.length by omega));rw[aD c,cQ c];rw[ao c] at e;cases e;exact#[l1++l2,as,_,h2,by rw[cq `mt];exact ao `mt,e2,e3]
 ·rw[au c];obtain⟨b,as,e2,e3,e4⟩:=AT h4 `ez';exact#[l1++l2,as,b,h2,by rw[df `mt,e1];exact e2,e3,e4]
def Sg {f c T C fL fI:ak} {fd fdL fdI:aH} (F:ox K "then" "then" vA f fd c T) (KC:oQ K C) (B:B5 (eO C) P w K mg fB fA fdB fdA) (X5:Txt5 K mg) (S:ub K mg "living" vw fL fdL `kw') (SA:ub K mg "is_alive" Bc fI fdI `jq'):bT P w K mg base dj 6 f fd `cg' (OX C T):=by
 refine F.ok wK `ST `B'
 ·show 74;rfl
 ·obtain⟨ra,rb,ka,kb,rfl,⟨yf,Ga,ma,ED,GV,CS,yc,GN⟩,⟨El,Gb,mb,GE,Ev,KN,yb,GO⟩,hsz,Bg,hT,iY⟩:=h;show 14;obtain⟨td,gu⟩:=X5.dead;show 68
  refine⟨_,am (`n1' wK.nd rfl `b0' (cJ uY (`oa' `XV lU (im `nd')) `U'))
   (am (`n2' wK.nd rfl `b0' (eP (aa (`nX' `IO gu ⟨td,rfl⟩) (aa `U' aB))))
   (am (jt (i:=4) (c:=c) (P:=T) (defs:=wO) (qual:="then.<locals>.moves") rfl F.ck X5.blt `IO `BT `BT rfl rfl rfl (show ∀y∈(aw (eG vA 2)).names,y.2= .free->(aw vA).names.lookup y.1=some .cell\/(aw vA).names.lookup y.1=some .free by decide+kernel) wK.nd rfl `Cl)
   (am (`n7' wK.nd rfl `Cl (Am (bb (fq `XV aC)) `XV (`nW' (pv 3) `XV `Ch)))
   (am (`od' wK.nd rfl `Cl (dq (xl rfl) `IO X5.nMax `BT (aa `XV (aa `U' aB))))
   (aG (aY (`nY' B.okI hr `aS' `IO B.gB B.kB B.bB b9
    (aa (cJ gx `XV `U') (aa (pv 6) (aa (cJ gx `XV `U') (aa (pv 5) (aa (pv 4) (aa (bQ (v:=.ref fI) `IO SA.g rfl) aB))))))))))))),?_⟩
  obtain⟨Bj,lx,rfl,_,CP⟩:=qx h3;have UY:=bH CP;have acN:qL.length=Gb.length+1:=by
   rw[bH h3'];unfold Px;rw[aE];rfl
  refine#[_,rfl,ra,C,dx,_,_,rfl,h1,KC.cl,KC.f5,rfl,1,rfl,_,rfl,la,_,rfl,SqL.of h2,fun sl S9=>?_];rw[Fm];have s1:aM H (bO H sl `gn'):=aM.new S9;have e1:(bO H sl `gn') sl=some `gn':=aq;generalize bO H sl `gn'=H1 at s1 e1⊢
  refine#[_,rfl,rb,C,Bm,_,_,rfl,s1 _ _ xT,KC.cl,KC.f5,rfl,sl,UU,_,_,rfl,rfl,e1,s1 _ _ Uv,by rw[ae,ae];omega,fun lz Rk=>?_];rw[<-bj];have s2:aM H (bO H1 lz `dj'):=s1.trans (aM.new Rk);have e2:(bO H1 lz `dj') lz=some `dj':=aq;generalize bO H1 lz `dj'=H2 at s2 e2⊢
  refine#[_,rfl,rb,C,Bm,_,_,rfl,s2 _ _ xT,KC.cl,KC.f4,rfl,by show 2<=sizeLine;decide,fun cr hcr=>?_];have s3:aM H (bO H2 cr `cD'):=s2.trans (aM.new hcr);have e3:(bO H2 cr `cD') cr=some `cD':=aq;have e23:(bO H2 cr `cD') lz=some `dj':=aM.new hcr _ _ e2;show _/\_;rw[show(bO H2 cr (.tup [.int 0,nV mb]))=bO H2 cr `cD' from rfl];generalize bO H2 cr `cD'=H3 at s3 e3 e23⊢
  have ME:=cw.same hT s3;refine⟨ME,fun fm fd H4 yG Zy hT4 lI lW=>?_⟩;have kT:∀c o,H3 c=some o->(∀ps,o≠ .tbl ps)->H4 c=some o:=fun c o e n=>Zy c o e (by
   obtain⟨ps,z,_⟩:=ME;exact eD e z (n ps))
  have x1:=kT _ _ (s3 _ _ h1) `bv';have Jl:=kT _ _ (s3 _ _ xT) `bv';have x3:=kT _ _ e3 `bv';have x23:=kT _ _ e23 `bv';have abG:=(ED.same s3).but ME Zy;have hTh:Ld C H4 ra lz cr ka.len ka.letters ka.size Ga Gb ma mb:=#[abG,#[Bj,qL,x23,b4 `j6' CP,b4 `j6' h3'],x3]
  have aaK:ka.len=0->ma<2:=fun z=>by
   have:Ga=[]:=bV.mp `mt;rw[this] at yc;exact yc
  refine OC KC rfl rfl x1 x3 aaK #[_,rfl,ra,C,dx,_,_,rfl,x1,KC.cl,KC.f2,rfl,_,rfl,rb,C,Bm,_,_,rfl,Jl,KC.cl,KC.f2,rfl,_,_,rfl,?_];rw[DM];refine#[_,rfl,ra,C,dx,_,_,rfl,x1,KC.cl,KC.f1,rfl,_,rfl,rb,C,Bm,_,_,rfl,Jl,KC.cl,KC.f1,rfl,_,_,rfl,rfl,_,rfl,_,rfl,ra,C,dx,_,_,rfl,x1,KC.cl,KC.f3,rfl,_,rfl,rb,C,Bm,_,_,rfl,Jl,KC.cl,KC.f3,rfl,_,_,rfl,rfl,_,rfl,_,rfl,fun base gr=>?_];have aaS:∀i,`bG'<=rJ:=fun i=>by
   split
   ·exact xn ED i
   ·exact xn GE _
  have Ew:ka.letters<=max ka.letters kb.letters:=Nat.le_max_left _ _;have Xm:kb.letters<=max ka.letters kb.letters:=Nat.le_max_right _ _;have oi:∀i t,i<Ga.length+Gb.length->t< `bG'->t< (R5 Ga Gb i).length/\((R5 Ga Gb i).getD t []).length<=max ka.letters kb.letters/\(sC Ga Gb mb i t).length<=max ka.letters kb.letters/\
   (i+1=Ga.length->(∀y∈(R5 Ga Gb i).getD t [],y<2)/\sC Ga Gb mb i t=((R5 Ga Gb i).getD t []).map fun y=>if y=0 then 0 else mb)/\(i+1≠Ga.length->sC Ga Gb mb i t=(R5 Ga Gb i).getD t [])/\
   ∀x,(sC Ga Gb mb i t).getD x 0< (if i+1<Ga.length then cj (Ga.drop (i+1)) else cj (Gb.drop (i+1 - Ga.length))):=fun i t hi ht=>by
   unfold R5 sC;by_cases c:i<Ga.length
   ·rw[aD c] at ht;rw[aD c,aD c];have hl:=mX GV c ht;have jB:∀x,(gQ Ga i t).getD x 0<cj (Ga.drop (i+1)):=fun x=>sg GV c ht;refine#[by rw[nF c] at ht;exact ht,by rw[hl];exact Ew,?_,fun e=>#[fun y hy=>?_,aD e],fun e=>au e,fun x=>?_]
    ·split
     ·rw[ae,show(gQ Ga i t).length=_ from hl];exact Ew
     ·rw[show(gQ Ga i t).length=_ from hl];exact Ew
    ·obtain⟨j,hj,ej⟩:=cg.mp hy;have:=jB j;rw[e,fx] at this;rw[show gQ Ga i t=(Ga.getD i []).getD t [] from rfl,cQ hj,ej] at this;exact this
    ·by_cases e:i+1=Ga.length
     ·rw[aD e,au `mt,show i+1 - Ga.length=0 by omega,wH (f:=fun y=>if y=0 then 0 else mb) (aD rfl)]
      split
      ·exact mU Ev
      ·exact yb
     ·rw[au e,aD `mt];exact jB x
   ·rw[au c] at ht;rw[au c,au c,au (show ¬i+1=Ga.length by omega)];have hl:=mX Ev `ez' ht;refine#[by rw[nF `ez'] at ht;exact ht,by rw[hl];exact Xm,by rw[show(gQ Gb `nS' t).length=_ from hl];exact Xm,fun e=>by omega,fun e=>rfl,fun x=>?_];rw[au `mt,show i+1 - Ga.length=i - Ga.length+1 by omega];exact sg Ev `mt ht
  have QY:max ka.letters kb.letters<=20:=by have:=yf.let_;have:=El.let_;omega
  refine Ak (n:=ka.len+kb.len) (z:=ka.size+kb.size) `ge' `bW' (fun i t=>t< `bG'/\(0<i->t≠0)/\(i=0->t=sS ka.len ma mb)) (fun H=>Ld C H ra lz cr ka.len ka.letters ka.size Ga Gb ma mb) (pm:=`fu') (pe:=`jq') rfl rfl lI SA.k ?_ ?_ ?_ SA.b (fun _ _ s z=>z.same s) hTh Bg QY hsz #[?_,fun z=>absurd z (dz _),fun _=>rfl] `eE' `jQ' fun H' r' G' m' s' qe MY vd=>?_
  ·show 1;refine g7 Du (fD (fvs:=[.ref lz,.ref ra,.ref cr]) gr [2,0,3] rfl rfl rfl `BT `BT (show ∀x∈_,(aw vA).names.lookup x=_ by decide+kernel)) `Ty `j' fun A outer s H vs Q E hr ⟨i,v,t,e,ht,⟨hi,uj,_⟩,⟨_,hC⟩,q⟩=>?_;show 15;obtain⟨dxx,lax,wax,acY,acO,y1,_⟩:=hC.a;have wv:i<Ga.length+Gb.length:=by omega
   obtain⟨c1,c2,c3,c4,c5,c6⟩:=oi i t wv uj;refine⟨_,am (`n7' Du.nd rfl `Cl (`nV' (`nV' (pv 2) (pv 0) `Ch) (pv 1) `Ch))
    (am (cC (bb (da (pv 0) (cJ u0 (bq (pv 3) rfl) aC))) (aG (rh (i:=5) (own:=[("child",6)]) rfl Du.nd rfl rfl `dU' (DC (pv 5)) (di `IO) (fun _ _ _ _ _=>cp (i:=6) Du.nd rfl `Cl) `aw' (fun _ _ _ _ _=>bz (r:=mi K) ee (pv 4) (pv 6) `Ch))) br)
    (aG (aY (`nU' `jy' (hr.mono `KK) `IO S.g S.k S.b .nil b9 `cP')))),?_⟩
   obtain⟨ls,as,b,e1,e2,e3,e4⟩:=OW hC wv;obtain⟨tn,e5,e6⟩:=nL e4 c1;refine#[_,rfl,_,rfl,fG e1 (iu e2) #[_,rfl,fG e3 (iu e5) #[_,rfl,_,rfl,ra,C,dxx,_,_,rfl,y1,KC.cl,KC.f1,rfl,_,_,rfl,rfl,_,_,rfl,rfl,_,rfl,az `A' fun e=>?_]]]
   ·have e:=af e;have Nl:i+1=Ga.length:=by
     have e:=e;omega
    obtain⟨d1,d2⟩:=c4 Nl;refine#[_,rfl,tn,rfl,#[_,iX.of e6],fun D hD=>lcT (R:=fun _ v (y:Nat)=>v=nV (if y=0 then 0 else mb)) (p:=fun _=>true) `km' e6 hD (cO `mt) `mS' fun H5 ys s5 GI KL=>?_]
    ·refine#[rfl,_,rfl,_,rfl,wX (s5 _ _ hC.cr) ?_ (tk rfl _ _ `M' rfl)];have:=d1 y hy;rcases iO y with z|z
     ·subst z;rfl
     ·obtain rfl:y=1:=by omega
      rfl
    ·rw[ik] at KL;have WB:ys=(sC Ga Gb mb i t).map nV:=by
      rw[d2,eK];clear GI d2 d1 c2 c3 c6 e6;generalize (R5 Ga Gb i).getD t []=l at KL
      induction KL with
      |nil=>rfl
      |cons h _ ih=>rw[bw,<-ih,h];rfl
     rw[WB] at GI;exact#[_,rfl,D,sC Ga Gb mb i t,rfl,.inr GI,by omega,fun H6 l s6 hl Wr=>q H6 l `jo' (s5.free hl) Wr]
   ·have e:=aj e;have Nl:i+1≠Ga.length:=fun z=>e (by show(i:Int)=(ka.len:Int) - 1;omega);rw[<-c5 Nl] at e6;exact#[_,rfl,tn,sC Ga Gb mb i t,rfl,.inl e6,by omega,fun H6 l s6 hl Wr=>q H6 l s6 hl Wr]
  ·show 1;exact .all fun us hl=>match us,hl with| [_,_],_=>rfl
  ·show 104
  ·unfold sS;by_cases z:0<Ga.length
   ·rw[aD z,aD `mt];exact yc
   ·rw[au z,au `mt,show 0 - Ga.length=0 by omega]
    split
    ·exact mU Ev
    ·exact yb
  ·obtain⟨c1,c2,c3,c4,c5,c6⟩:=oi i t `mt sE.1;refine hX `l5' fun x hx=>?_;have:=aL.mp (aO.mp hx).1;omega
  ·obtain⟨c1,c2,c3,c4,c5,c6⟩:=oi i t `mt sE.1;show 159;exact#[c6 _,fun _=>af (aO.mp hy).2,fun z=>absurd z (qN _)]
  ·rcases iO i with z|z
   ·exact oy (aU `lK' `KK)
   ·rcases Ci nd `jf' with e|e
    ·exact bD e (aaS i)
    ·rw[e];decide
  ·have WL:cn T H H4:=fun b o e hb=>Zy b o (s3 _ _ e) hb;refine iY H' r' G' m' `ko' (cw.same hT4 s') (gn hT WL qe hT4) MY `bc';show 213;show gY `ge' `bW' 0 (sS ka.len ma mb) r=_;have hr:r.length=ka.len+kb.len:=hr;have:=Lo GV Ev yc yb (r:=r) `mt;rw[CS] at this;rw[this,GN _ `eV',GO _ `mv'];have e:=CF ka kb (r:=r.take ka.len) (s:=r.drop ka.len) `eV' `mv';rw[gI] at e;exact e.symm
end
abbrev vo:du:=my 63
abbrev oz:List `ap':=[(lQ (eG vo 2),"side_by_side.<locals>.moves")]
section
variable {X:Cx} {CX:yx} {k:Nat} {E:XK} {x:Str} {p pos:Pos} {e:Expr} {es:List Expr} {t:TA}
def Qx (P:bN) (w:cV) (K:ai) (mg:Str->Option aA) (base:cZ) (CX:yx) (k i:Nat) (E:XK) (t:TA):TE:=fun σ H Q=>∃f,σ[i]? =some (some `bA')/\
 t σ H fun vs H1=>B6 K H1 f/\∃fd ps sp,bT P w K mg base CX k f fd ps sp/\fV K fd ps []/\sp vs H1 Q E
def OG {i:Nat} (hr:Room k X.A) (hx:pR CX X E) (ha:PA X `dH' t) (hN:X.N[i]? =some x:=by rfl) (hv:Uc X.env.scope x:=by first|exact Or.inl rfl|exact Or.inr `Cl|exact Or.inr `b0')
 (Ex:`az'=false:=by decide) (xr:`dy'=false:=by decide) (he:starEach `dH' X.env=(false,eval e X.env)::starEach es X.env:=by rfl) (sI:(backTo pos `a0').any (·.1)=false:=by rfl):
 PE X `aG' (Qx X.prog X.w X.K X.mg X.base CX k i E t):=Fs hr hx ha hN hv Ex xr he sI
end
def IR {κ:Type} [BEq κ] [LawfulBEq κ] {KA:rs} {P:bN} {w:cV} {K:ai} {mg:Str->Option aA} {M:Sk κ} {base:cZ} {vs:List V} {H:Hp} {Q:VK} {E:XK}
 (mv:Nat->κ->List `ax') (en:κ->Bool) (Iv:Nat->κ->Prop) (C CE:Hp->Prop) {n L z:Nat} {v:V} {s:κ} {fm fe:ak} {fd sm:aH} {pm pe:List Str} (Q2:vs=`b5') (wu:M.rep H v s) (lI:FnAt H fm fd) (rB:FnAt H fe sm)
 (F:bT P w K mg base dj 3 fm fd pm `cA') (bF:fV K fd pm []) (FE:bT P w K mg base dj 3 fe sm pe `iL') (bE:fV K sm pe []) (hC:∀H H':Hp,aM H H'->C H->C H') (Zb:∀H H':Hp,aM H H'->CE H->CE H') (KR:C H) (Na:CE H) (hn:n<=20) (hL:L<=20) (WC:z<=3) (h0:Iv 0 s)
 (hI:∀i t,i<n->Iv i t->oY L `hB'/\∀x t',(x,t')∈mv i t->Iv (i+1) t') (hz:∀i (l:List κ),i<=n->l.Nodup->(∀t∈l,Iv i t)->l.length<rJ)
 (k:∀(H':Hp) (r:ak) (G:List (List (List Nat))) (m:Nat),aM H H'->H r=Option.none->KA H' r n L z G m->KG n L `fF' G m->Q `bd' H'):qm KA P w K mg M base vs H Q E:=by
 obtain⟨⟨fo,u,h1,h2⟩,_⟩:=id lI;obtain⟨⟨fo',u',xT,Uv⟩,_⟩:=id rB;exact⟨mv,en,Iv,_,_,n,L,z,v,s,fm,fe,fo,u,fd,fd,sm,pm,pe,Q2,wu,⟨h1,h2⟩,.inl ⟨fo',u',sm,xT,Uv⟩,F,bF,FE,bE,
  fun H H' s ⟨a,b⟩=>`ef',fun H H' s ⟨a,b⟩=>`mZ',#[lI,KR],#[rB,Na],hn,hL,WC,h0,hI,hz,k⟩
def ab5 {K:ai} {R:Hp->V->Nat->Prop} {p:Nat->Bool} {M:Nat} {f:Nat->V} {a:ak} {H1:Hp} {D:ak} {g:TG} {tt:TT} {te:TE} {vs:List Nat} {σ:L2.St} {Qd:Hp->Prop} (hR:uy R) (ha:H1 a=some (.lst `iX')) (hD:H1 D=Option.none) (hz:M<sizeLine)
 (t:∀(i:Nat),i<M->∀(H2:Hp) (T:ak) (NX:Hp->Prop),aM H1 H2->H2 T=some (.tup [nV i,f i])->(p i=false->∀H4,aM H2 H4->NX H4)->
  (p i=true->∀H5 y,aM H2 H5->R H5 y i->∃cR,H5 D=some `cM'/\cR.length<sizeLine/\NX `au')->
  g (.ref T) `dJ' H2 fun σ2 H3=>ie σ2 vs=ie σ vs/\tt σ2 H3 fun b H4=>if b=true then te σ2 H4 fun y H5=>∃cR,H5 D=some `cM'/\cR.length<sizeLine/\NX `au' else NX H4)
 (hd:∀(H:Hp) (ys:List V),aM H1 H->H D=some `cC'->Paired (R H) ys ((List.range M).filter p)->Qd H):TN (VM K a) g tt te vs σ H1 D Qd:=by
 have NL:(List.range M).length=M:=bv;have Q7:((List.range M).map f).length=M:=by rw[ae,NL]
 refine#[fun i m H=>m=M - i/\i<=M/\nE R p `ia' H1 D i H,#[M,rfl,aN _,qW hD],?_];rintro i m H ⟨rfl,hi,I⟩;have hs:SqL K H a `iX':=SqL.of `nf';by_cases jB:i<M
 ·have hx:=eZ jB;have hfx:`iX'[i]? =some (f i):=by rw[aR,hx];rfl
  refine .inr #[#[_,f i,hs,hfx],nE R p `ia' H1 D (i+1),fun H' I'=>#[M - (i+1),by omega,rfl,jB,I'],fun v H' y=>?_];show 106;rw[hfx] at Bf;have Bf:=aP Bf;show 54;have I':nE R p `ia' H1 D i (bO H T `aj'):=`bV'
  show 26;rw[aq,<-Bf]
 ·obtain rfl:i=M:=by omega
  refine .inl #[#[_,hs,by rw[Q7];exact ax _],?_];have I2:nE R p (List.range i) H1 D (List.range i).length H:=by rw[NL];exact I
  obtain⟨s,ys,h,q⟩:=tU I2;exact hd H ys s h q
def wR {H:Hp} {ts:List ak} {ps:List (V×V)} (h:lp H ts ps):ts.length=ps.length:=bH h
def ID (ts:List ak):ts.map V.ref=(List.range ts.length).map fun k=>V.ref (ts.getD k 0):=by
 apply List.ext_getElem?;intro k;rw[aR,aR];by_cases h:k<ts.length
 ·rw[eZ h,ao h];show some (V.ref ts[k])=some (V.ref (ts.getD k 0));rw[cQ h]
 ·rw[bc `mt,bc (by rw[bv];omega)];rfl
def F6 {H:Hp} {ts:List ak} {c d:List Nat} (h:lp H ts ((c.map nV).zip (d.map nV))) {k:Nat} (hc:k<c.length) (hd:k<d.length):H (ts.getD k 0)=some (.tup [nV (c.getD k 0),nV (d.getD k 0)]):=by
 have hl:=wR h;rw[i9,ae,ae] at hl;obtain⟨p,e1,e2⟩:=fE h (ao `nP');rw[List.getElem?_zip_eq_some] at e1;rw[jM hc,jM hd] at e1;rw[cQ `nP',e2];obtain⟨h1,h2⟩:=e1;rw[<-aP h1,<-aP h2]
section
variable {fB fA:ak} {fdB fdA:aH}
def ZT (go:Nat->Nat->Bool) (C:Hp->Prop):Sp:=fun vs H Q _=>∃(b:ak) (x y:Nat),vs=[.ref b]/\H b=some (.tup [nV x,nV y])/\C H/\∀H',aM H H'->Q (.bl (go x y)) H'
def N9 (C T:ak) (P:bN) (w:cV) (K:ai) (mg:Str->Option aA) (base:cZ):Sp:=fun vs H Q _=>∃(ra rb fg fe:ak) (To sm:aH) (ka kb:aT) (M:Nat) (go en:Nat->Nat->Bool) (oo:Bool->Bool->Bool),
 vs=`jV'/\Mod K mg base/\KD C H ra ka/\KD C H rb kb/\ka.len=kb.len/\ka.size+kb.size<=3/\M<=20/\cw H T oz/\FnAt H fg To/\bT P w K mg base dj 2 fg To `bM' (ZT go fun H=>FnAt H fg To)/\fV K To `bM' []/\
 FnAt H fe sm/\bT P w K mg base dj 3 fe sm `bM' (ZT en fun H=>FnAt H fe sm)/\fV K sm `bM' []/\(∀x y,x<2->y<2->en x y=oo (x==1) (y==1))/\
 (∀(f g:dh->Bool) x y r,(x=0->∀r,f r=false)->(y=0->∀r,g r=false)->go x y=false->oo (f r) (g r)=false)/\(∀x,M<=x->∀p q:Bool,(ka.letters<=x->p=false)->(kb.letters<=x->q=false)->oo p q=false)/\
 ∀(H':Hp) (r:ak) (G:List (List (List Nat))) (m:Nat),cn T H H'->cw H' T oz->H r=Option.none->eO C H' r ka.len M (ka.size+kb.size) G m->KG ka.len M (fun r=>oo (cG ka r) (cG kb r)) G m->Q `bd' H'
abbrev OT:List Str:=["a","b","letters","goes_on","ends","left","right","moves"]
abbrev Da:List Str:=["a","b","letters","goes_on","ends"]
def Dr:bY OT Da (aw vo):=`dl
abbrev aar:List Str:=["place","state","left","right","goes_on","pairs","x","pair"]
def A3:eR aar `cb' ["left","right","goes_on"] (aw (eG vo 2)):=`ld
def qw (H:Hp) (l:ak) (M:Nat) (G:List `Id):Prop:=∃as:List ak,H l=some `aq'/\Paired `dD' as `mL'
def qw.same {H H':Hp} {l:ak} {M:Nat} {G:List `Id} (x:qw H l M G) (s:aM H H'):qw H' l M G:=let⟨as,h1,h2⟩:=x;#[as,s _ _ h1,b4 `fp' h2]
def qw.but {H H':Hp} {T l:ak} {defs:List `ap'} {M:Nat} {G:List `Id} (x:qw H l M G) (h:cw H T defs) (k:cn T H H'):qw H' l M G:=by
 obtain⟨ps,hp,_⟩:=id h;obtain⟨as,h1,h2⟩:=x;exact#[as,k _ _ h1 (eD h1 hp `XL),b4 (fun _ _ t=>t.but h k) h2]
def Fy {H:Hp} {l:ak} {M:Nat} {G:List `Id} (x:qw H l M G) {i m:Nat} (hi:i<G.length) (hm:m< (G.getD i []).length):∃(as bs:List ak) (b t:ak),H l=some `aq'/\as[i]? =some b/\H b=some `aL'/\bs[m]? =some t/\H t=some (.tup ((j5 M (gQ G i m)).map nV)):=by
 show 63;rw[cQ hi] at hm;obtain⟨t,e4,e5⟩:=nL e3 (by rw[ae];exact hm);refine#[as,bs,_,t,h1,ao `mt,e2,e4,?_];rw[e5];unfold gQ;rw[cQ (show m< (G[i].map (Li M)).length by rw[ae];exact hm),gL,cQ hi,cQ hm];rfl
def RV {f c T C fF:ak} {fd Ui:aH} (F:ox K "side_by_side" "side_by_side" vo f fd c T) (KC:oQ K C) (B:B5 (eO C) P w K mg fB fA fdB fdA) (X5:Txt5 K mg) (S:ub K mg "fit_letters" Mf fF Ui `eA'):bT P w K mg base dj 6 f fd Da (N9 C T P w K mg base):=by
 refine F.ok Dr `ST `B'
 ·obtain⟨ra,rb,fg,fe,To,sm,ka,kb,M,go,en,oo,rfl,_⟩:=h;rfl
 ·obtain⟨ra,rb,fg,fe,To,sm,ka,kb,M,go,en,oo,rfl,Ze,⟨yf,Ga,ma,ED,GV,CS,yc,GN⟩,⟨El,Gb,mb,GE,Ev,KN,yb,GO⟩,Bg,hsz,hM,hT,hfg,hFg,hBg,QL,hFe,hBe,p1,p2,p3,iY⟩:=h;show 14;show 68
  refine⟨_,am (`n7' Dr.nd rfl `b0' (bZ (Ei S.fn KC X5) (hr.mono `KK) `IO S.g S.k S.b .nil b9 (aa (pv 0) `aC')))
   (am (`od' Dr.nd rfl `b0' (bZ (Ei S.fn KC X5) (hr.mono `KK) `IO S.g S.k S.b .nil b9 (aa (pv 1) `aC')))
   (am (jt (i:=7) (defs:=oz) (qual:="side_by_side.<locals>.moves") rfl F.ck X5.blt `IO `BT `BT rfl rfl rfl (show ∀y∈(aw (eG vo 2)).names,y.2= .free->(aw vo).names.lookup y.1=some .cell\/(aw vo).names.lookup y.1=some .free by decide+kernel) Dr.nd rfl `Cl)
   (aG (aY (gp B.okT hr `aS' `IO B.gB B.kB B.bB b9
    (aa `XV (aa (pv 2) (aa (cJ gx `XV `U') (aa (eP (aa `XV (aa `U' aB))) (aa (pv 7) `cO')))))))))),?_⟩
  rw[show L2.start OT `jV'=[some (.ref ra),some (.ref rb),some (nV M),some (.ref fg),some (.ref fe),none,none,none] from rfl];show 67
  have sF:=cw.same hT MQ;refine⟨sF,fun fm fd H3 yG Zt ME lI lW=>?_⟩;have kT:∀c o,H2 c=some o->(∀ps,o≠ .tbl ps)->H3 c=some o:=fun c o e n=>Zt c o e (by
   obtain⟨ps,z,_⟩:=sF;exact eD e z (n ps))
  have x1:=kT _ _ (MQ _ _ h1) `bv';have Jl:=kT _ _ (MQ _ _ xT) `bv';refine#[_,rfl,ra,C,dx,_,_,rfl,x1,KC.cl,KC.f1,rfl,_,rfl,_,rfl,ra,C,dx,_,_,rfl,x1,KC.cl,KC.f3,rfl,_,rfl,rb,C,Bm,_,_,rfl,Jl,KC.cl,KC.f3,rfl,_,_,rfl,rfl,_,rfl,ra,C,dx,_,_,rfl,x1,KC.cl,KC.f4,rfl,_,rfl,rb,C,Bm,_,_,rfl,Jl,KC.cl,KC.f4,rfl,by show 2<=sizeLine;decide,fun sp BE=>?_];have s4:aM H3 (bO H3 sp `ki'):=aM.new BE;have e4:(bO H3 sp `ki') sp=some (.tup ([ma,mb].map nV)):=aq;generalize bO H3 sp `ki'=H4 at s4 e4⊢
  refine `gJ';have abM:=JL hFg Ze gr.up gr.sz;have abA:=JL hFe Ze gr.up gr.sz;have afn:∀{f0:ak} {yB:aH},FnAt H f0 yB->FnAt H4 f0 yB:=fun h=>FnAt.same s4 (FnAt.but (FnAt.same MQ h) sF Zt);have Rj:∀{i:Nat} {t:List Nat},i<=Ga.length->(∃row:dh,row.length=i/\t=`nR')->∃x y,t=[x,y]/\x<cj `e5'/\y<cj `e6':=fun{i t} hi ⟨row,hr,e⟩=>by
   subst hr;exact#[_,_,e,pp GV yc hi,pp Ev yb `mt]
  refine IR (Ed Ga Gb M go) `eR' (fun i t=>∃row:dh,row.length=i/\t=`nR') (fun H=>qw H lf M Ga/\qw H rt M Gb/\FnAt H fg To) `bw' (pm:=`cb') rfl #[sp,rfl,e4] (FnAt.same s4 lI) (afn QL) ?_ ?_ ?_ hBe (fun _ _ s z=>#[z.1.same s,z.2.1.same s,FnAt.same s z.2.2]) `aR' #[(X9.but sF Zt).same s4,(QF.but sF Zt).same s4,afn hfg] trivial yf.len hM hsz #[[],rfl,by rw[nw,nw]] `eE' `jQ' fun H' r' G' m' s' qe MY vd=>?_
  ·show 1;refine g7 A3 (fD (fvs:=[.ref lf,.ref rt,.ref fg]) gr [5,6,3] rfl rfl rfl `BT `BT (show ∀x∈_,(aw vo).names.lookup x=_ by decide+kernel)) `Ty `j' fun A outer s H vs Q E hr ⟨i,v,t,e,ht,⟨hi,sE⟩,⟨_,hCl,hCr,hCg⟩,q⟩=>?_;subst e;obtain⟨x0,y0,rfl,hx0,hy0⟩:=Rj `mt sE;obtain⟨sb,rfl,hsb⟩:=ht;have UI:i<Ga.length:=by omega
   have UB:i<Gb.length:=by omega
   obtain⟨la1,lb1,b1,t1,q1,q2,q3,q4,q5⟩:=Fy hCl UI (by rw[<-nF UI];exact hx0);obtain⟨la2,lb2,b2,t2,r1,r2,r3,r4,r5⟩:=Fy hCr UB (by rw[<-nF UB];exact hy0);refine⟨_,am (`n7' A3.nd rfl `Cl (FW rfl `IO X5.nList `IO X5.nZip (aa (bz bi (bz bi (pv 2) (pv 0) `Ch) (bz ee (pv 1) aC `Ch) `Ch) (aa (bz bi (bz bi (pv 3) (pv 0) `Ch) (bz ee (pv 1) aC `Ch) `Ch) aB))))
    (aG (aY (jN (own:=[("x",6),("pair",7)]) (g:=Og K 2 (vN (ss 6) (vN (ss 7) Pc))) (tt:=tB (Qx P w K mg Jg dj 2 4 E0 (sq (oX 7) AQ))) rfl A3.nd (vj `IO X5.nEnum `cP') (di `IO) (fun _ _ _ _ _=>uE rfl (jm (cp A3.nd rfl `Cl) (jm (cp A3.nd rfl `Cl) r6)))
     (fun _ _ _ _ _=>jA (Ir (OG hr b9 `gz'))) (fun _ _ _ _ _=>eP (aa (pv 6) `gz'))))),?_⟩
   refine#[_,rfl,_,rfl,fG q1 (iu q2) #[_,rfl,sb,_,0,nV x0,rfl,rfl,iX.of hsb,bx rfl,fG q3 (iu q4) #[_,rfl,_,rfl,fG r1 (iu r2) #[_,rfl,sb,_,1,nV y0,rfl,rfl,iX.of hsb,bx rfl,fG r3 (iu r4) #[t1,t2,_,_,rfl,q5,r5,by rw[ae,ae,kE,kE],by rw[ae,kE];omega,fun l H5 ts hl s5 QQ WV=>?_]]]]];have Zo:ts.length=M:=by
    rw[wR WV,i9,ae,ae,kE,kE];omega
   rw[ID,Zo] at QQ;refine#[_,rfl,l,_,rfl,SqL.of QQ,fun D hD=>ab5 (R:=RM Sx fun k=>(k,[(gQ Ga i x0).getD k 0,(gQ Gb i y0).getD k 0])) (p:=fun k=>go ((gQ Ga i x0).getD k 0) ((gQ Gb i y0).getD k 0)) j9 QQ hD `mt (fun k hk H6 TT NX s6 Bi sk tk=>?_) fun H6 ys s6 hD6 hp6=>?_]
   ·have WY:=F6 WV (by rw[kE];exact hk) (by rw[kE];exact hk);rw[qX _ hk,qX _ hk] at WY;have WY:=s6 _ _ WY;refine#[TT,_,rfl,iX.of Bi,rfl,_,_,rfl,_,_,rfl,rfl,rfl,fg,rfl,_,rfl,.inl ?_,To,`bM',_,abM,hBg,ts.getD k 0,_,_,rfl,WY,FnAt.same `jo' hCg,fun H7 s7=>#[_,rfl,az `A' fun e=>sk e _ s7]]
    ·obtain⟨⟨fo,u,z1,z2⟩,_⟩:=FnAt.same `jo' hCg;exact#[fo,u,_,z1,z2]
    ·exact#[_,rfl,_,rfl,by show 2<=sizeLine;decide,fun b hb=>tk e _ _ (s7.trans `fP') #[b,_,rfl,aq,ts.getD k 0,rfl,aM.new hb _ _ (s7 _ _ WY)]]
   ·exact q H6 D `jo' (s5.free hD) (nb hD6 hp6 rfl)
  ·show 1;exact .all fun us hl=>match us,hl with| [_,_],_=>rfl
  ·refine ge abA (fun vs H Q E ⟨v,t,e,ht,sE,⟨hc,_⟩,q⟩=>?_);obtain⟨x0,y0,rfl,_,_⟩:=Rj `mt sE;obtain⟨sb,rfl,hsb⟩:=ht;exact#[sb,x0,y0,e,hsb,hc,q]
  ·exact hX `l5' fun x hx=>aL.mp (aO.mp hx).1
  ·obtain⟨row,hr,rfl⟩:=sE;show 159;refine#[row++[x],by rw[aE,hr];rfl,?_];rw[rM Ga ma row x `mt,rM Gb mb row x `mt,hr];rfl
  ·exact PX GV Ev CS KN Bg yc yb GN GO yf.cv El.cv hsz hi nd h
  ·have WL:=fun b o e hb=>s4 _ _ (Zt b o (MQ _ _ e) hb);refine iY H' r' G' m' `ko' (cw.same (cw.same ME s4) s') (gn hT WL qe (cw.same ME s4)) MY `bc';show 213;show gY (Ed Ga Gb M go) `eR' 0 [ma,mb] r=oo (cG ka r) (cG kb r);have:=Cb GV Ev (CS.trans (Bg.trans KN.symm)) go en en oo p1 p2 (fun x hx i a b r hi ha hb=>p3 x hx _ _ (fun hl=>?_) (fun hl=>?_)) r 0 ma mb (by rw[cE,CS];exact hr) yc yb
   ·rw[this];show oo (cx Ga ma r) (cx Gb mb r)=_;rw[GN r hr,GO r (by rw[<-Bg];exact hr)]
   ·cases q:cx `e5' a (x::r) with
    |false=>rfl
    |true=>
     have:=Dx (io GV i) ha q x `dG';omega
   ·cases q:cx `e6' b (x::r) with
    |false=>rfl
    |true=>
     have:=Dx (io Ev i) hb q x `dG';omega
end
abbrev vE:du:=my 60
abbrev oS:du:=my 61
abbrev pW:du:=my 62
def Uh (T1 T2:ak) (H H':Hp):Prop:=∀b o,H b=some o->b≠T1->b≠T2->H' b=some o
def cw.but {H H':Hp} {T T':ak} {defs Xg:List `ap'} (t:cw H T defs) (h:cw H T' Xg) (k:cn T' H H') (hn:T≠T'):cw H' T defs:=by
 obtain⟨ps',Ng,_⟩:=h;obtain⟨ps,h1,h2,h3⟩:=t;refine#[ps,k _ _ h1 hn,h2,fun q hq cv e=>?_];obtain⟨c,e1,e2⟩:=h3 q hq cv e;exact#[c,e1,e2.keep Ng k]
def oV {x:Nat}:`K' (x:Int) 0=(x != 0):=by
 show(!decide ((x:Int)=0))= !(x==0)
 congr 1
 show 190
def Rp {x:Nat}:`E' (x:Int) 0=(x==0):=b5.mpr `F'
def Ob (C T1:ak) (d1:List `ap') (T:ak) (H:Hp) (Q:VK) (kd:aT):Prop:=
 ∀(H':Hp) (r:ak) (G:List (List (List Nat))) (m:Nat),Uh T1 T H H'->cw H' T1 d1->cw H' T oz->H r=Option.none->eO C H' r kd.len kd.letters kd.size G m->KG kd.len kd.letters `kY' G m->Q `bd' H'
section
variable {fB fA:ak} {fdB fdA:aH}
structure JX (C T:ak) (P:bN) (w:cV) (K:ai) (mg:Str->Option aA) (fS:ak) (fdS:aH):Prop where
 g:mg "side_by_side"=some (.ref fS)
 k:keepIn K (.ref fS)=true
 b:fV K fdS Da []
 ok:∀base,Mod K mg base->bT P w K mg base dj 6 fS fdS Da (N9 C T P w K mg base)
abbrev xm:List `ap':=[(lQ (eG vE 0),"both.<locals>.goes_on")]
def OH (C T1 T:ak):Sp:=fun vs H Q _=>∃(ra rb:ak) (ka kb:aT),vs=`d1'/\KD C H ra ka/\KD C H rb kb/\ka.len=kb.len/\ka.size+kb.size<=3/\cw H T1 xm/\cw H T oz/\T≠T1/\Ob C T1 xm T H Q (.both ka kb)
def Qr:bY ["a","b","goes_on"] `cg' (aw vE):=`dl
def Vv:eR `bM' `bM' [] (aw (eG vE 0)):=`ld
def SS {f c T1 T C fS:ak} {fd fdS:aH} (F:ox K "both" "both" vE f fd c T1) (KC:oQ K C) (X5:Txt5 K mg) (SK:JX C T P w K mg fS fdS):bT P w K mg base dj 7 f fd `cg' (OH C T1 T):=by
 refine F.ok Qr `ST `B'
 ·show 74;rfl
 ·show 4;refine#[_,am (jt (i:=2) (defs:=xm) (qual:="both.<locals>.goes_on") rfl F.ck X5.blt `IO `BT `BT rfl rfl rfl (show ∀y∈(aw (eG vE 0)).names,y.2= .free->(aw vE).names.lookup y.1=some .cell\/(aw vE).names.lookup y.1=some .free by decide+kernel) Qr.nd rfl `Cl) (aG (aY (gp SK.ok hr `aS' `IO SK.g SK.k SK.b b9 (aa (pv 0) (aa (pv 1) (aa (dq (t7 rfl) `IO X5.nMin `BT (aa `XV (aa `U' aB))) (aa (pv 2) `aC'))))))),?_];refine `jY';show 8;rw[Km];refine `gJ';refine#[ra,rb,fm,fm,MH,MH,ka,kb,min ka.letters kb.letters,(fun x y=>x != 0&&y != 0),(fun x y=>x != 0&&y != 0),(fun p q=>p&&q),rfl,gr.mod,`mp',`mi',Bg,hsz,(by have:=yf.let_;omega),MF,lI,?_,?_,lI,?_,?_,?_,?_,?_,fun H' r G m Tx Np qe MY vd=>?_]
  iterate 2
   ·show 1;refine g7 Vv (`n8' gr [] rfl rfl rfl `BT `BT (show ∀x∈_,(aw vE).names.lookup x=_ by decide+kernel)) `Ty `cU' fun A outer s H vs Q E hr ⟨b,x,y,e,hb,_,q⟩=>?_;subst e;refine#[_,aG (aY (N2 (mn (l8 (bz ee (pv 0) aC `Ch) (`nX' `IO gu `g9'))) (Dl (mn (l8 (bz ee (pv 0) aC `Ch) (`nX' `IO gu `g9')))))),?_];show 90
    ·rw[oV] at e;refine `fZ';rw[show `kC'=(y != 0) by show `nD'=_;rw[e,dG],<-oV] at q;exact q
    ·rw[oV] at e;rw[show `kC'=false by show `nD'=_;rw[e,dS]] at q;exact q
   ·show 1;exact .all fun us hl=>match us,hl with| [_],_=>rfl
  ·show 134
   have hy:y=0\/y=1:=by omega
   show 94
  ·intro f g x y r hf hg e;show(f r&&g r)=false;have e:`nD'=false:=e;by_cases hx:x=0
   ·rw[hf hx r,dS]
   ·rw[show(x != 0)=true from bne_iff_ne.mpr hx,dG] at e;rw[hg `lR' r,hU]
  ·intro x hx p q hp hq;show(p&&q)=false;rcases Nat.le_total ka.letters kb.letters with z|z
   ·rw[hp `mt,dS]
   ·rw[hq `mt,hU]
  ·show 136
   ·exact gn lF BF qe TC
   ·show 213;exact(BI ka kb r).symm
abbrev qT:List `ap':=[(lQ (eG oS 0),"either.<locals>.goes_on")]
def FP (C T1 T:ak):Sp:=fun vs H Q _=>∃(ra rb:ak) (ka kb:aT),vs=`d1'/\KD C H ra ka/\KD C H rb kb/\ka.len=kb.len/\ka.size+kb.size<=3/\cw H T1 qT/\cw H T oz/\T≠T1/\Ob C T1 qT T H Q (.either ka kb)
def Gz:bY ["a","b","goes_on"] `cg' (aw oS):=`dl
def NT:eR `bM' `bM' [] (aw (eG oS 0)):=`ld
def LO {f c T1 T C fS:ak} {fd fdS:aH} (F:ox K "either" "either" oS f fd c T1) (KC:oQ K C) (X5:Txt5 K mg) (SK:JX C T P w K mg fS fdS):bT P w K mg base dj 7 f fd `cg' (FP C T1 T):=by
 refine F.ok Gz `ST `B'
 ·show 74;rfl
 ·show 4;refine#[_,am (jt (i:=2) (defs:=qT) (qual:="either.<locals>.goes_on") rfl F.ck X5.blt `IO `BT `BT rfl rfl rfl (show ∀y∈(aw (eG oS 0)).names,y.2= .free->(aw oS).names.lookup y.1=some .cell\/(aw oS).names.lookup y.1=some .free by decide+kernel) Gz.nd rfl `Cl) (aG (aY (gp SK.ok hr `aS' `IO SK.g SK.k SK.b b9 (aa (pv 0) (aa (pv 1) (aa (dq (xl rfl) `IO X5.nMax `BT (aa `XV (aa `U' aB))) (aa (pv 2) `aC'))))))),?_];refine `jY';show 8;rw[DM];refine `gJ';refine#[ra,rb,fm,fm,MH,MH,ka,kb,max ka.letters kb.letters,(fun x y=>x != 0||y != 0),(fun x y=>x != 0||y != 0),(fun p q=>p||q),rfl,gr.mod,`mp',`mi',Bg,hsz,(by have:=yf.let_;have:=El.let_;omega),MF,lI,?_,?_,lI,?_,?_,?_,?_,?_,fun H' r G m Tx Np qe MY vd=>?_]
  iterate 2
   ·show 1;refine g7 NT (`n8' gr [] rfl rfl rfl `BT `BT (show ∀x∈_,(aw oS).names.lookup x=_ by decide+kernel)) `Ty `cU' fun A outer s H vs Q E hr ⟨b,x,y,e,hb,_,q⟩=>?_;subst e;refine#[_,aG (aY (T5 (mn (l8 (bz ee (pv 0) aC `Ch) (`nX' `IO gu `g9'))) (Dl (mn (l8 (bz ee (pv 0) aC `Ch) (`nX' `IO gu `g9')))))),?_];show 90
    ·rw[oV] at e;rw[show `kD'=true by show(x != 0||y != 0)=_;rw[e,rD]] at q;exact q
    ·rw[oV] at e;refine `fZ';rw[show `kD'=(y != 0) by show(x != 0||y != 0)=_;rw[e,Bool.false_or],<-oV] at q;exact q
   ·show 1;exact .all fun us hl=>match us,hl with| [_],_=>rfl
  ·show 134
   have hy:y=0\/y=1:=by omega
   show 94
  ·intro f g x y r hf hg e;have e:=e;rw[Bool.or_eq_false_iff] at e;rw[hf (by simpa using e.1) r,hg (by simpa using e.2) r];rfl
  ·intro x hx p q hp hq;rw[hp `mt,hq `mt];rfl
  ·show 136
   ·exact gn lF BF qe TC
   ·show 213;exact(xt ka kb r).symm
abbrev uJ:List `ap':=[(lQ (eG pW 0),"less.<locals>.goes_on"),(lQ (eG pW 1),"less.<locals>.ends")]
def NN (C T1 T:ak):Sp:=fun vs H Q _=>∃(ra rb:ak) (ka kb:aT),vs=`d1'/\KD C H ra ka/\KD C H rb kb/\ka.len=kb.len/\ka.size+kb.size<=3/\cw H T1 uJ/\cw H T oz/\T≠T1/\Ob C T1 uJ T H Q (.less ka kb)
def HG:bY ["a","b","goes_on","ends"] `cg' (aw pW):=`dl
def Vq:eR `bM' `bM' [] (aw (eG pW 0)):=`ld
def VH:eR `bM' `bM' [] (aw (eG pW 1)):=`ld
def Sy {f c T1 T C fS:ak} {fd fdS:aH} (F:ox K "less" "less" pW f fd c T1) (KC:oQ K C) (X5:Txt5 K mg) (SK:JX C T P w K mg fS fdS):bT P w K mg base dj 7 f fd `cg' (NN C T1 T):=by
 refine F.ok HG `ST `B'
 ·show 74;rfl
 ·show 4;refine#[_,am (jt (i:=2) (c:=c) (P:=T1) (defs:=uJ) (qual:="less.<locals>.goes_on") rfl F.ck X5.blt `IO `BT `BT rfl rfl rfl (show ∀y∈(aw (eG pW 0)).names,y.2= .free->(aw pW).names.lookup y.1=some .cell\/(aw pW).names.lookup y.1=some .free by decide+kernel) HG.nd rfl `Cl) (am (jt (i:=3) (c:=c) (P:=T1) (defs:=uJ) (qual:="less.<locals>.ends") rfl F.ck X5.blt `IO `BT `BT rfl rfl rfl (show ∀y∈(aw (eG pW 1)).names,y.2= .free->(aw pW).names.lookup y.1=some .cell\/(aw pW).names.lookup y.1=some .free by decide+kernel) HG.nd rfl `Cl) (aG (aY (`nY' SK.ok hr `aS' `IO SK.g SK.k SK.b b9 (aa (pv 0) (aa (pv 1) (aa `XV (aa (pv 2) `aY')))))))),?_];rw[show L2.start ["a","b","goes_on","ends"] `d1'=[some (.ref ra),some (.ref rb),none,none] from rfl];refine#[lF,fun fm MH H0 yG kb0 Wv CY lW=>?_];refine#[Wv,fun fe sm H1 QL u7 TC rB qK=>?_];have BF:cn T1 H H1:=cn.trans kb0 u7;have lI:=FnAt.but CY Wv u7;have MF:=cw.but (cw.but hT lF kb0 Bi) Wv u7 Bi;have x1:H1 ra=_:=BF _ _ h1 (by obtain⟨ps,z,_⟩:=lF;exact eD h1 z `XL);have Jl:H1 rb=_:=BF _ _ xT (by obtain⟨ps,z,_⟩:=lF;exact eD xT z `XL);have MG:=hA.but lF BF;have Rc:=hB.but lF BF;refine#[_,rfl,_,rfl,_,rfl,ra,C,dx,_,_,rfl,x1,KC.cl,KC.f2,rfl,_,rfl,_,rfl,fun Jg gr=>?_];refine#[ra,rb,fm,fe,MH,sm,ka,kb,ka.letters,(fun x _=>x != 0),(fun x y=>x != 0&&y==0),(fun p q=>p&& !q),rfl,gr.mod,`mp',`mi',Bg,hsz,yf.let_,MF,lI,?_,?_,rB,?_,?_,?_,?_,?_,fun H' r G m Tx Np qe MY vd=>?_]
  ·show 1;refine g7 (k:=1) Vq (`n8' gr [] rfl rfl rfl `BT `BT (show ∀x∈_,(aw pW).names.lookup x=_ by decide+kernel)) `Ty `cU' fun A outer s H vs Q E hr ⟨b,x,y,e,hb,_,q⟩=>?_;subst e;refine#[_,aG (aY (mn (l8 (`nW' (pv 0) aC `Ch) (`nX' `IO gu `g9')))),?_];show 143;refine#[_,rfl,b,_,0,nV x,rfl,rfl,iX.of hb,bx (j:=0) rfl,_,_,rfl,rfl,?_];rw[show((fun x _:Nat=>x != 0) x y)=(x != 0) from rfl,<-oV] at q;exact q
  ·show 1;exact .all fun us hl=>match us,hl with| [_],_=>rfl
  ·obtain⟨doc,pm,cdv,ct,rfl⟩:=qK;refine g7 (k:=2) VH (`n8' gr [] rfl rfl rfl `BT `BT (show ∀x∈_,(aw pW).names.lookup x=_ by decide+kernel)) `Ty `cU' fun A outer s H vs Q E hr ⟨b,x,y,e,hb,_,q⟩=>?_;subst e;refine#[_,aG (aY (N2 (mn (l8 (`nW' (pv 0) aC `Ch) (`nX' `IO gu `g9'))) (Dl (mn (da (`nW' (pv 0) aC `Ch) (`nX' `IO gu `g9')))))),?_];show 143;refine#[_,rfl,b,_,0,nV x,rfl,rfl,iX.of hb,bx (j:=0) rfl,_,_,rfl,rfl,_,rfl,az `A' fun e=>?_]
   ·rw[oV] at e;refine#[_,rfl,b,_,1,nV y,rfl,rfl,iX.of hb,bx (j:=1) rfl,_,_,rfl,rfl,?_];rw[show `lt'=(y==0) by show(x != 0&&y==0)=_;rw[e,dG],<-Rp] at q;exact q
   ·rw[oV] at e;rw[show `lt'=false by show(x != 0&&y==0)=_;rw[e,dS]] at q;exact q
  ·obtain⟨doc,pm,cdv,ct,rfl⟩:=qK;exact .all fun us hl=>match us,hl with| [_],_=>rfl
  ·show 134
   have hy:y=0\/y=1:=by omega
   show 94
  ·intro f g x y r hf hg e;show(f r&& !g r)=false;have e:(x != 0)=false:=e;rw[hf `lR' r,dS]
  ·intro x hx p q hp hq;show(p&& !q)=false;rw[hp hx,dS]
  ·show 136
   ·exact gn lF BF qe TC
   ·show 213;exact(t8 ka kb r).symm
end
abbrev tR:du:=my 42
abbrev yy:du:=my 43
abbrev rS:du:=my 44
abbrev yu:du:=my 45
abbrev vD:du:=my 46
abbrev v7:du:=my 47
abbrev vW:du:=my 48
def wF {n L:Nat} {lg:dh->Bool} {G:List `Id} {m:Nat} (h:KG n L lg G m):GG L n `b4' lg:=fun r hr _=>h.2.2.2 r hr
def y6 {kd:aT} {G:List `Id} {m:Nat} (h:KG kd.len kd.letters `kY' G m):(iy kd.letters G).getD m 0=(Wqarao.opened kd).count:=by
 rw[pU h.2.2.1,h.2.1,(wF h).num,uf]
def CZ {kd:aT} {G:List `Id} {m:Nat} (h:KG kd.len kd.letters `kY' G m):RR.num kd.letters kd.len `b4'=(Wqarao.opened kd).count:=by rw[(wF h).num,uf]
def AM {kd:aT} {G:List `Id} {m:Nat} (h:KG kd.len kd.letters `kY' G m) (k:Nat):(Wqarao.opened kd).row k=if k< (Wqarao.opened kd).count then some (js kd.letters kd.len `b4' k) else none:=by
 rw[Aj,(wF h).row k,uf]
def Oa {kd:aT} {G:List `Id} {m:Nat} (h:KG kd.len kd.letters `kY' G m) {r:dh} (hr:r.length<=kd.len):(Wqarao.opened kd).beginning r=iL kd.letters kd.len `b4' r:=by
 rw[rR hr,(wF h).beg r]
def Pr {L:Nat} {G:List `Id} (g:iG L G) {m:Nat} (hm:m<cj G):RR.num L G.length `b4'=0↔m=0:=by
 constructor
 ·intro h;refine AR g hm (mU g) (funext fun r=>?_);rw[ii g];cases q:cx G m r with
  |false=>rfl
  |true=>
   have:r∈LH L G.length `b4':=RR.mem_allR.mpr #[yH q,Dx g hm q,q];have h2:=jS this;rw[ql,h] at h2;cases h2
 ·rintro rfl;exact Bu g
def Kt {L:Nat} {G:List `Id} (g:iG L G):∀(r:dh) (i nd:Nat),i+r.length<=G.length->nd<cj `ar'->(iL L `gx' (cx `ar' nd) r).2=RR.num L (G.length - `nu') (cx (G.drop `nu') (iz `ar' nd r))
 | [],i,nd,h,pz=>by
  rw[wS,nw];rfl
 |x::r,i,nd,h,pz=>by
  have hi:i<G.length:=by rw[aF] at h;omega
  rw[Fu g hi pz,aF,show i+`ny'=i+1+r.length by omega];have:=Kt g r (i+1) `hl' `cr' (sg g hi pz);rw[this];rw[show iz `ar' nd (x::r)=iz `aH' `hl' r by rw[nz (d:=[]) hi];rfl]
def Pb {L:Nat} {G:List `Id} (g:iG L G) {m:Nat} (hm:m<cj G) {r:dh} (hr:r.length<=G.length):(iL L G.length `b4' r).2=0↔iz G m r=0:=by
 have:=Kt g r 0 m `mt hm;rw[iC,cE] at this;have h2:=Pr (io g r.length) (pp g hm hr);rw[b6] at h2;rw[show iL L G.length `b4' r=iL L G.length (cx (G.drop 0) m) r from rfl,this];exact h2
def Ac {L:Nat}:∀{G:List (List (List Nat))} (_:iG L G) (r:dh),iz G 0 r=0
 |G,_,[]=>nw G 0
 | [],_,_::_=>rfl
 |ly::G,g,x::r=>by
  cases g with
  |cons h1 h2=>
   show iz G ((ly.getD 0 []).getD x 0) r=0;rw[h1.zero,k0];exact Ac h2 r
def K4 {kd:aT} {G:List `Id} {m:Nat} (h:KG kd.len kd.letters `kY' G m) {r:dh} (hr:r.length=kd.len):
 (Wqarao.opened kd).number r=match wI G m r with
  |some i=>.error i
  |none=>.ok (iL kd.letters kd.len `b4' r).1:=by
 obtain⟨g,hl,hm,Th⟩:=id h;rw[L0 hr];have hp:(fun(i:Nat)=>(iL kd.letters kd.len `kY' `dT').2==0)=fun i=>(iL kd.letters kd.len `b4' `dT').2==0:=by
  funext i
  rw[(wF h).beg]
 rw[hp,<-(wF h).beg r];have hz:=fun s hs=>by
  have:=Pb g hm (r:=s) (by rw[hl];exact hs);rw[hl] at this;exact this
 have hq:(fun i=>(iL kd.letters kd.len `b4' `dT').2==0)=fun i=>iz G m `dT'==0:=by
  funext i
  have:=hz `dT' `eV';rw[Bool.eq_iff_iff,gv,gv];exact this
 rw[hq,<-hr];unfold wI;by_cases h0:m=0
 ·rw[aD h0];subst h0;have hw:∀s,iz G 0 s=0:=Ac g;rcases iO r.length with z|z
  ·rw[Jr (fun j hj=>by omega)];rw[hr,aD ((hz r `mt).mpr (hw r))]
  ·rw[JM z (fun j hj=>absurd hj (ip _)) (by rw[hw];rfl)]
 ·rw[au h0];cases e:(List.range r.length).find? fun i=>iz G m `dT'==0 with
  |some i=>rfl
  |none=>
   have hn:iz G m r≠0:=by
    rcases iO r.length with z|z
    ·rw[bV.mp z,nw];exact h0
    ·have:=pG.mp e (r.length - 1) (aL.mpr `mt);rw[show r.length - 1+1=r.length by omega,eU] at this
     simpa using this
   rw[hr,au fun z=>hn ((hz r `mt).mp z)]
def Do (a:Answer):List V:=(numbers a).map V.int
def fz (c:Int) (l:List Nat):Do #[c,l]= .int c::l.map nV:=by
 unfold Do numbers;rw[bw,eK];rfl
def MT (H:Hp) (Q:VK) (a:Answer):Prop:=∀(H':Hp) (l:ak),aM H H'->H l=Option.none->H' l=some (.lst (Do a))->Q `cp' H'
def MT.lst {H H0:Hp} {Q:VK} {a:Answer} (q:MT H Q a) (s:aM H H0) {xs:List V} (e:xs=Do a) (l:ak) (hl:H0 l=Option.none):Q `cp' (bO H0 l `bh'):=by
 subst e;exact q _ l (s.trans `lM') (s.free hl) aq
structure Qs (K:ai) (mg:Str->Option aA) (C fR fB fF fN fO fL:ak) (dR dB dF dN dO dL:aH):Prop where
 kc:oQ K C
 r:ub K mg "row_at" DW fR dR `cF'
 b:ub K mg "beginning" rY fB dB `be'
 f:ub K mg "fault" DG fF dF `be'
 n:ub K mg "fair_number" Ki fN dN `fd'
 o:ub K mg "as_one" A4 fO dO ["drawn"]
 l:ub K mg "follow" tY fL dL rn
variable {C fR fB fF fN fO fL:ak} {dR dB dF dN dO dL:aH}
def KD.at {H:Hp} {r:ak} {kd:aT} {G:List `Id} {m:Nat} (g:oG kd) (k:eO C H r kd.len kd.letters kd.size G m) (h:KG kd.len kd.letters `kY' G m):Si C H r kd.len kd.letters kd.size G m:=#[k,h.1,h.2.1,h.2.2.1,g.len,g.let_,g.size]
def qF (kd:aT) (k:Int):Answer:=rowTold (if 0<=k then(Wqarao.opened kd).row k.toNat else none)
def Qj (C:ak):Sp:=fun vs H Q _=>∃(r:ak) (k:Int) (kd:aT),vs=[.ref r,.int k]/\KD C H r kd/\MT H Q (qF kd k)
def OA:bY `cF' `cF' (aw yy):=`dl
def A8 (L:Nat):∀(n:Nat) (f:dh->Bool) (k:Nat),(js L n f k).length<=n
 |0,_,_=>ax _
 |n+1,f,k=>by
  show(match k5 `f8' `eu' k with
   |none=>[]
   |some z=>z.1::js L n `l1' z.2).length<=n+1
  split
  ·exact aN _
  ·exact nq (A8 L n _ _)
def wW {f:ak} {fd:aH} (F:nv K "answer_row" "answer_row" yy f fd) (T:Txt5 K mg) (S:Qs K mg C fR fB fF fN fO fL dR dB dF dN dO dL):bT P w K mg base dj 2 f fd `cF' (Qj C):=by
 refine F.ok OA `ST `LE
 ·obtain⟨r,k,kd,rfl,_⟩:=h;rfl
 ·obtain⟨r,k,kd,rfl,⟨gd,G,m,hK,hG⟩,q⟩:=h;obtain⟨dx,la,wa,oA,qB,h1,_⟩:=id hK;obtain⟨t5,h5⟩:=T.c5;have ve:=y6 hG;refine⟨_,am (cC (jv (bb (v0 (pv 1) aC)) (j7 (bb (sO (pv 1) `XV)))).pt (aG (aY (db (aa (bQ (v:=.int (-5)) `IO h5 ⟨t5,rfl⟩) aB)))) br)
   (aG (aY (cJ uY `j5' (`nU' `c7' hr `IO S.r.g S.r.k S.r.b .nil b9 (aa (pv 0) `aN'))))),?_⟩
  have no:qF kd k=#[-5,[]]->∀(Q':VK),Q'=Q->(1<=sizeLine/\∀l,H l=Option.none->Q' `cp' (bO H l (.lst [.int (-5)]))):=fun e Q' eq=>by
   subst eq;rw[e] at q;exact#[by decide,fun l hl=>q.lst `M' `af' l hl]
  refine#[_,rfl,k,0,rfl,rfl,_,rfl,az `ct' fun e=>#[_,rfl,_,rfl,r,C,dx,_,_,rfl,h1,S.kc.cl,S.kc.f7,rfl,k,_,rfl,rfl,_,rfl,az (fun e'=>?_) fun e'=>?_]]
  ·have e:=af e;exact no (by unfold qF;rw[au `mt];rfl) Q rfl
  ·have e:=aj e;have e':=af e';rw[ve] at e';refine no ?_ Q rfl;unfold qF;rw[aD `mt,AM hG,au `mt];rfl
  ·have e:=aj e;have e':=aj e';rw[ve] at e';have hk:k=(k.toNat:Int):=(Int.toNat_of_nonneg `mt).symm;have jB:k.toNat< (Wqarao.opened kd).count:=by omega
   refine#[by show 1<=sizeLine;decide,fun p0 GX=>#[_,rfl,_,rfl,r,k.toNat,kd.len,kd.letters,kd.size,G,m,by show[V.ref r,V.int k]=[V.ref r,V.int (k.toNat:Int)];rw[<-hk],(KD.at gd hK hG).same (aM.new GX),by rw[CZ hG];exact jB,fun H' l s' hl sJ=>?_]];refine#[p0,l,_,_,rfl,rfl,s' _ _ aq,sJ,?_,fun l2 tO=>q.lst ((aM.new GX).trans s') ?_ l2 tO]
   ·rw[ae];have:=A8 kd.letters kd.len `b4' k.toNat;have:=gd.len;have:1000<sizeLine:=by decide
    show 1+_<=_;omega
   ·unfold qF;rw[aD `mt,AM hG,aD jB];rw[fz];rfl
def JF {L:Nat}:∀(n:Nat) (f:dh->Bool) (k:Nat),k<RR.num L n f->(js L n f k).length=n
 |0,_,_,_=>rfl
 |n+1,f,k,h=>by
  obtain⟨z,hz⟩:=tV (l:=List.range L) (k:=k) h;have e:js L (n+1) f k=z.1::js L n `l1' z.2:=by
   show(match k5 `f8' `eu' k with
    |none=>[]
    |some z=>z.1::js L n `l1' z.2)=_
   rw[hz]
  rw[e,aF,JF n _ _ (vi hz).2]
def Cu:∀(l:List Nat),(∀x∈l,x<4294967296)->joined l<WORD^l.length
 | [],_=>by decide
 |x::l,h=>by
  have ih:=Cu l fun y hy=>h y `hg';have hx:=h x `dG';rw[xN,aF,oK];show _<WORD^l.length*4294967296;have:=nQ 4294967296 (Nat.succ_le_of_lt ih);rw[oJ] at this;omega
def J3 {n:Nat} (hn:1<=n):∀(f u:Nat) (l:List Nat) (x:Nat×Nat),(∀y∈l,y<4294967296)->Wqarao.fair n f u l=some x->x.1<n
 |0,_,_,_,_,h=>by cases h
 |f+1,u,l,x,hl,h=>by
  rw[Cm] at h;by_cases c:l.length<wordsFor n
  ·rw[aD c] at h;cases h
  ·rw[au c] at h;cases e:try_ n (WORD^wordsFor n) (joined `jS') with
   |none=>
    rw[e] at h;exact J3 hn f _ _ x (fun y hy=>hl y (nT hy)) h
   |some i=>
    rw[e] at h;cases h;unfold try_ at e
    split at e
    ·cases e
    ·cases e;have hj:=Cu `jS' fun y hy=>hl y (List.mem_of_mem_take hy);rw[be,Nat.min_eq_left `mt] at hj;have hB:0<WORD^wordsFor n:=Nat.pow_pos `KK;show _/_<n;rw[Nat.div_lt_iff_lt_mul hB,oM n];exact Nat.mul_lt_mul_of_pos_right hj hn
section
variable {C fR fB fF fN fO fL:ak} {dR dB dF dN dO dL:aH}
def tL (kd:aT) (r:List Nat):Answer:=match(Wqarao.opened kd).number r with
 | .error p=>#[-9,[p]]
 | .ok i=>tells [i]
def EJ (C:ak):Sp:=fun vs H Q _=>∃(r a:ak) (kd:aT) (row:List Nat),vs=`dz'/\KD C H r kd/\H a=some `hf'/\row.length=kd.len/\MT H Q (tL kd row)
def xH:bY ["kind","row","place"] `be' (aw rS):=`dl
def D9 {f:ak} {fd:aH} (F:nv K "answer_number" "answer_number" rS f fd) (T:Txt5 K mg) (S:Qs K mg C fR fB fF fN fO fL dR dB dF dN dO dL):bT P w K mg base dj 3 f fd `be' (EJ C):=by
 refine F.ok xH `ST `LE
 ·obtain⟨r,a,kd,row,rfl,_⟩:=h;rfl
 ·obtain⟨r,a,kd,row,rfl,⟨gd,G,m,hK,hG⟩,ha,hl,q⟩:=h;obtain⟨t9,h9⟩:=T.c9;refine⟨_,am (`n1' xH.nd rfl `Cl (`nU' (P0 (P:=P) (w:=w) (base:=base) S.f.fn S.kc T.toTxt4 S.l) hr `IO S.f.g S.f.k S.f.b .nil b9 (aa (pv 0) `aN')))
   (am (cC (bb (SN (pv 2))) (aG (aY (db (aa (bQ (v:=.int (-9)) `IO h9 ⟨t9,rfl⟩) `aC')))) br)
   (aG (aY (db (aa aC (aa (`nW' (`nU' `bf' hr `IO S.b.g S.b.k S.b.b .nil b9 (aa (pv 0) `aN')) aC `Ch) aB)))))),?_⟩
  have hn:=K4 hG hl;refine#[_,rfl,_,rfl,r,a,kd.len,kd.letters,kd.size,G,m,row,rfl,KD.at gd hK hG,ha,by omega,fun H1 s1=>?_];cases e:wI G m row with
  |some i=>
   rw[e] at hn;have hq:tL kd row=#[-9,[i]]:=by unfold tL;rw[hn]
   rw[hq] at q;exact#[_,rfl,_,rfl,az (fun _=>#[_,rfl,by show 2<=sizeLine;decide,fun l hl=>q.lst s1 `af' l hl]) fun z=>nomatch z]
  |none=>
   rw[e] at hn;have hq:tL kd row=#[0,[(iL kd.letters kd.len `b4' row).1]]:=by unfold tL;rw[hn];rfl
   rw[hq] at q;refine#[_,rfl,_,rfl,az `dI' fun _=>#[_,rfl,_,rfl,r,a,kd.len,kd.letters,kd.size,G,m,row,rfl,(KD.at gd hK hG).same s1,s1 _ _ ha,by omega,fun H2 t s2 ht ht2=>?_]];exact#[t,_,0,_,rfl,rfl,iX.of ht2,bx (j:=0) rfl,by show 2<=sizeLine;decide,fun l hl=>q.lst (s1.trans s2) `af' l hl]
def uV (kd:aT) (r:List Nat):Answer:=if kd.len<r.length then Wqarao.no (-2) else tells [((Wqarao.opened kd).beginning r).1,((Wqarao.opened kd).beginning r).2]
def PV (C:ak):Sp:=fun vs H Q _=>∃(r a:ak) (kd:aT) (row:List Nat),vs=`dz'/\KD C H r kd/\H a=some `hf'/\MT H Q (uV kd row)
def Ol:bY `be' `be' (aw yu):=`dl
def LD {f:ak} {fd:aH} (F:nv K "answer_beginning" "answer_beginning" yu f fd) (T:Txt5 K mg) (S:Qs K mg C fR fB fF fN fO fL dR dB dF dN dO dL):bT P w K mg base dj 3 f fd `be' (PV C):=by
 refine F.ok Ol `ST `LE
 ·obtain⟨r,a,kd,row,rfl,_⟩:=h;rfl
 ·obtain⟨r,a,kd,row,rfl,⟨gd,G,m,hK,hG⟩,ha,q⟩:=h;obtain⟨dx,la,wa,oA,qB,h1,_⟩:=id hK;obtain⟨t2,h2⟩:=T.c2;refine⟨_,am (cC (bb (fq (dq eu `IO T.nLen cY `aN') `XV)) (aG (aY (db (aa (`ob' `IO h2 ⟨t2,rfl⟩) aB)))) br)
   (aG (aY (cJ uY `j5' (mw Ej `IO T.nList boot_list (aa (`nU' `bf' hr `IO S.b.g S.b.k S.b.b .nil b9 (aa (pv 0) `aN')) aB))))),?_⟩
  refine#[_,rfl,a,_,rfl,.inl (SqL.of ha),_,rfl,r,C,dx,_,_,rfl,h1,S.kc.cl,S.kc.f1,rfl,(row.length:Int),(kd.len:Int),by rw[ae],rfl,_,rfl,az `A' fun e=>?_]
  ·have e:=af e;have hq:uV kd row=#[-2,[]]:=aD (ji.mp e);rw[hq] at q;show 19
  ·have e:=aj e;have hl:row.length<=kd.len:=mJ.mp (Int.not_lt.mp e);have hq:uV kd row=#[0,[(iL kd.letters kd.len `b4' row).1,(iL kd.letters kd.len `b4' row).2]]:=by
    unfold uV;rw[au `mt,Oa hG hl];rfl
   rw[hq] at q;refine#[by show 1<=sizeLine;decide,fun p0 GX=>#[_,rfl,_,rfl,r,a,kd.len,kd.letters,kd.size,G,m,row,rfl,(KD.at gd hK hG).same (aM.new GX),aM.new GX _ _ ha,hl,fun H1 t s1 ht Xu=>?_]];refine#[t,_,rfl,.inr (iX.of Xu),fun l1 rC=>?_];exact#[p0,l1,_,_,rfl,rfl,aM.new rC _ _ (s1 _ _ aq),aq,by show 1+2<=sizeLine;decide,fun l hl=>q.lst ((aM.new GX).trans (s1.trans (aM.new rC))) `af' l hl]
def ua (n:Nat) (l:List Nat):Answer:=if n=0\/MANY<n then Wqarao.no (-1) else match Wqarao.fair n `fR' 0 l with
 |none=>Wqarao.no (-6)
 |some x=>tells [x.1,x.2]
def Mg:Sp:=fun vs H Q _=>∃(a:ak) (n:Nat) (l:List Nat),vs=[nV n,.ref a]/\H a=some (.lst `bR')/\l.length<=sizeLine/\MT H Q (ua n l)
abbrev ab3:List Str:=["n","drawn","found"]
def B8:bY ab3 `fd' (aw vW):=`dl
def Hs {f:ak} {fd:aH} (F:nv K "answer_fair" "answer_fair" vW f fd) (T:Txt5 K mg) (S:Qs K mg C fR fB fF fN fO fL dR dB dF dN dO dL):bT P w K mg base dj 3 f fd `fd' Mg:=by
 refine F.ok B8 `ST `LE
 ·obtain⟨a,n,l,rfl,_⟩:=h;rfl
 ·obtain⟨a,n,l,rfl,ha,Rk,q⟩:=h;obtain⟨t1,h1⟩:=T.c1;obtain⟨t6,h6⟩:=T.c6;obtain⟨tf,hf⟩:=T.flim;refine⟨_,am (cC (jv `ah' (j7 (bb (fq (pv 0) (`on' `IO hf ⟨tf,rfl⟩))))).pt (aG (aY (db (aa (`n6' `IO h1 ⟨t1,rfl⟩) aB)))) br)
   (am (`n1' B8.nd rfl `Cl (`nU' `h9' hr `IO S.n.g S.n.k S.n.b .nil b9 (aa (pv 0) `aN')))
   (am (cC (bb (AV (pv 2))) (aG (aY (db (aa (bQ (v:=.int (-6)) `IO h6 ⟨t6,rfl⟩) aB)))) br)
   (aG (aY (db (aa aC (aa (`nW' (pv 2) aC `Ch) (aa (`nW' (pv 2) aC `Ch) aB)))))))),?_⟩
  have hM:MANY=4611686018427387904:=by decide
  have hMp:(2:Nat)^62=4611686018427387904:=by decide
  have no:n=0\/MANY<n->(1<=sizeLine/\∀l,H l=Option.none->Q `cp' (bO H l (.lst [.int (-1)]))):=fun e=>by
   have hq:ua n l=#[-1,[]]:=aD e;rw[hq] at q;exact#[by decide,fun l hl=>q.lst `M' `af' l hl]
  refine#[_,rfl,n,0,rfl,rfl,_,rfl,az `ct' fun e=>#[_,rfl,n,_,rfl,rfl,_,rfl,az (fun e'=>?_) fun e'=>?_]]
  ·have e:=af e;exact no (.inl `mt)
  ·have e':=af e';have e':=e';exact no (.inr `mt)
  ·have e:=aj e;have e':=aj e';have e':=e';have e:¬(n:Int)=0:=e;have WP:¬(n=0\/MANY<n):=by omega
   refine#[_,rfl,_,rfl,a,n,l,rfl,ha,by omega,by omega,Rk,fun k8 H1 s1=>?_,fun x hx H1 t s1 ht=>?_]
   ·have hq:ua n l=#[-6,[]]:=by
     unfold ua;rw[au WP,k8];rfl
    show 58
   ·have hq:ua n l=#[0,[x.1,x.2]]:=by
     unfold ua;rw[au WP,hx];rfl
    rw[hq] at q;exact#[_,rfl,_,rfl,az `dI' fun _=>#[_,rfl,t,_,0,_,rfl,rfl,iX.of ht,bx (j:=0) rfl,_,rfl,t,_,1,_,rfl,rfl,iX.of ht,bx (j:=1) rfl,by show 3<=sizeLine;decide,fun l hl=>q.lst s1 `af' l hl]]
def o0 (kd:aT) (l:List Nat):Answer:=if(Wqarao.opened kd).count=0 then Wqarao.no (-5) else match Wqarao.fair (Wqarao.opened kd).count `fR' 0 l with
 |none=>Wqarao.no (-6)
 |some x=>tells (x.2::(((Wqarao.opened kd).row x.1).getD []))
def LI (C:ak):Sp:=fun vs H Q _=>∃(r a:ak) (kd:aT) (l:List Nat),vs=`dz'/\KD C H r kd/\(Wqarao.opened kd).count<2^62/\H a=some (.lst `bR')/\l.length<=sizeLine/\(∀y∈l,y<4294967296)/\MT H Q (o0 kd l)
abbrev acl:List Str:=["kind","drawn","found"]
def BL:bY acl `jp' (aw v7):=`dl
def Hj {f:ak} {fd:aH} (F:nv K "answer_draw" "answer_draw" v7 f fd) (T:Txt5 K mg) (S:Qs K mg C fR fB fF fN fO fL dR dB dF dN dO dL):bT P w K mg base dj 3 f fd `jp' (LI C):=by
 refine F.ok BL `ST `LE
 ·obtain⟨r,a,kd,l,rfl,_⟩:=h;rfl
 ·obtain⟨r,a,kd,l,rfl,⟨gd,G,m,hK,hG⟩,hc,ha,Rk,hw,q⟩:=h;obtain⟨dx,la,wa,oA,qB,h1,_⟩:=id hK;obtain⟨t5,h5⟩:=T.c5;obtain⟨t6,h6⟩:=T.c6;have ve:=y6 hG;refine⟨_,am (cC (bb (da `XV aC)) (aG (aY (db (aa (bQ (v:=.int (-5)) `IO h5 ⟨t5,rfl⟩) aB)))) br)
   (am (`n1' BL.nd rfl `Cl (`nU' `h9' hr `IO S.n.g S.n.k S.n.b .nil b9 (aa `XV `aN')))
   (am (cC (bb (AV (pv 2))) (aG (aY (db (aa (bQ (v:=.int (-6)) `IO h6 ⟨t6,rfl⟩) aB)))) br)
   (aG (aY (cJ uY (db (aa aC (aa (`nW' (pv 2) aC `Ch) aB))) (`nU' `c7' (hr.mono `KK) `IO S.r.g S.r.k S.r.b .nil b9 (aa (pv 0) (aa (`nW' (pv 2) aC `Ch) aB)))))))),?_⟩
  refine#[_,rfl,r,C,dx,_,_,rfl,h1,S.kc.cl,S.kc.f7,rfl,_,0,rfl,rfl,_,rfl,az `A' fun e=>?_]
  ·have e:=af e;rw[ve] at e;have hq:o0 kd l=#[-5,[]]:=aD `mt;rw[hq] at q;show 19
  ·have e:=aj e;rw[ve] at e;have WP:¬(Wqarao.opened kd).count=0:=by omega
   refine#[_,rfl,r,C,dx,_,_,rfl,h1,S.kc.cl,S.kc.f7,rfl,_,rfl,a,(Wqarao.opened kd).count,l,by rw[ve];rfl,ha,by omega,by omega,Rk,fun k8 H1 s1=>?_,fun x hx H1 t s1 ht=>?_]
   ·have hq:o0 kd l=#[-6,[]]:=by
     unfold o0;rw[au WP,k8];rfl
    show 58
   ·have jB:=J3 `mt _ _ _ x hw hx;have hq:o0 kd l=#[0,x.2::js kd.letters kd.len `b4' x.1]:=by
     unfold o0;rw[au WP,hx];show tells (x.2::((Wqarao.opened kd).row x.1).getD [])=_;rw[AM hG,aD jB];rfl
    rw[hq] at q;refine#[_,rfl,_,rfl,az `dI' fun _=>#[_,rfl,t,_,1,_,rfl,rfl,iX.of ht,bx (j:=1) rfl,by show 2<=sizeLine;decide,fun p0 GX=>?_]];have s2:=s1.trans (aM.new GX (o:=.lst [.int 0,nV x.2]));refine#[_,rfl,_,rfl,t,_,0,_,rfl,rfl,iX.of (aM.new GX _ _ ht),bx (j:=0) rfl,r,x.1,kd.len,kd.letters,kd.size,G,m,rfl,(KD.at gd hK hG).same s2,by rw[CZ hG];exact jB,fun H2 l2 s3 tO QU=>?_];refine#[p0,l2,_,_,rfl,rfl,s3 _ _ aq,QU,?_,fun l3 BG=>q.lst `gf' `af' l3 BG];rw[ae];have:=A8 kd.letters kd.len `b4' x.1;have:=gd.len;have:1000<sizeLine:=by decide
    show 2+_<=_;omega
end
def rO (kd:aT) (i m:Nat):Answer:=if 20<m then Wqarao.no (-1) else tells (((List.range m).filterMap fun(k:Nat)=>(Wqarao.opened kd).row (i+k)).flatMap fun(r:dh)=>r.length::r)
def F5 {α:Type} (f:Nat->Option α) (g:Nat->α) (t:Nat):∀m,t<=m->(∀k,k<t->f k=some (g k))->(∀k,t<=k->k<m->f k=none)->(List.range m).filterMap f=(List.range t).map g
 |0,h,_,_=>by
  obtain rfl:t=0:=by omega
  rfl
 |m+1,h,h1,h2=>by
  rw[eB,List.filterMap_append];by_cases c:t=m+1
  ·subst c;rw[fm_range2 f g m (fun k hk=>h1 k `mt),eB,bj]
   congr 1
   rw[List.filterMap_cons_some (h1 m `mt)];rfl
  ·rw[F5 f g t m `mt h1 (fun k a b=>h2 k a `mt),List.filterMap_cons_none (h2 m `mt `mt),List.filterMap_nil,bU]
where fm_range2 {α:Type} (f:Nat->Option α) (g:Nat->α):∀m,(∀k,k<m->f k=some (g k))->(List.range m).filterMap f=(List.range m).map g
 |0,_=>rfl
 |m+1,h=>by
  rw[eB,List.filterMap_append,bj,fm_range2 f g m (fun k hk=>h k `mt),List.filterMap_cons_some (h m `mt)];rfl
def BO {α β:Type} (f:α->List β) (l:List α) (x:α):(l++[x]).flatMap f=l.flatMap f++f x:=by rw[List.flatMap_append];simp
section
variable {C fR fB fF fN fO fL:ak} {dR dB dF dN dO dL:aH}
def Me (C:ak):Sp:=fun vs H Q _=>∃(r:ak) (kd:aT) (i m:Nat),vs=[.ref r,nV i,nV m]/\KD C H r kd/\(Wqarao.opened kd).count<2^62/\i<2^63/\MT H Q (rO kd i m)
abbrev ack:List Str:=["kind","first","many","answer","number"]
def xh:bY ack `fI' (aw vD):=`dl
def HW {f:ak} {fd:aH} (F:nv K "answer_rows" "answer_rows" vD f fd) (T:Txt5 K mg) (S:Qs K mg C fR fB fF fN fO fL dR dB dF dN dO dL):bT P w K mg base dj 2 f fd `fI' (Me C):=by
 refine F.ok xh `ST `LE
 ·obtain⟨r,kd,i,m,rfl,_⟩:=h;rfl
 ·obtain⟨r,kd,i,m,rfl,⟨gd,G,rt,hK,hG⟩,hc,Zm,q⟩:=h;obtain⟨dx,la,wa,oA,qB,h1,_⟩:=id hK;obtain⟨t1,NM⟩:=T.c1;obtain⟨tm,Zk⟩:=T.most;have ve:=y6 hG;refine⟨_,am (cC (bb (fq (pv 2) (bQ (v:=.int 20) `IO Zk ⟨tm,rfl⟩))) (aG (aY (db (aa (`n6' `IO NM ⟨t1,rfl⟩) aB)))) br)
   (am (`n2' xh.nd rfl `Cl `j5')
   (am (mf cD rfl (Mz `IO T.nRange (aa (pv 1) (aa (dq (t7 rfl) `IO T.nMin `BT (aa (cJ gx (pv 1) (pv 2)) (aa `XV aB))) aB))) (cp (i:=4) xh.nd rfl `Cl)
    (am (gZ (nZ bu bX bW gN (pv 3) (aa `XV aB)))
    (aG (gZ (nZ bu PySem.F.slot_list_extend PySem.F.type_list_extend Ce (pv 3) (aa (`nU' `c7' hr `IO S.r.g S.r.k S.r.b .nil b9 (aa (pv 0) `cO')) aB))))))
   (aG `jA'))),?_⟩
  refine#[_,rfl,m,20,rfl,rfl,_,rfl,az `A' fun e=>?_]
  ·have e:=af e;have hq:rO kd i m=#[-1,[]]:=aD `mt;rw[hq] at q;show 19
  have e:=aj e;have acR:m<=20:=by omega
  refine#[by show 1<=sizeLine;decide,fun q0 uh=>?_];have s1:aM H (bO H q0 `cR'):=aM.new uh;refine#[_,rfl,_,rfl,_,rfl,_,_,rfl,rfl,_,rfl,r,C,dx,_,_,rfl,s1 _ _ h1,S.kc.cl,S.kc.f7,rfl,((i+m:Nat):Int),_,rfl,?_];rw[ve,Km];generalize ye:(Wqarao.opened kd).count=cc at*
  have acH:(2:Nat)^62=4611686018427387904:=by decide
  have acL:(2:Nat)^63=9223372036854775808:=by decide
  have acM:(2:Int)^62=4611686018427387904:=by decide
  have acF:(2:Int)^63=9223372036854775808:=by decide
  refine#[(i:Int),((min (i+m) cc:Nat):Int),rfl,#[by omega,by omega,by omega,by omega],?_];have ht:((((min (i+m) cc:Nat):Int)) - (i:Int)).toNat=min m (cc - i):=by omega
  rw[ht];have hq:rO kd i m=#[0,((List.range (min m (cc - i))).map fun k=>js kd.letters kd.len `mP' (i+k)).flatMap fun(r:dh)=>r.length::r]:=by
   unfold rO;rw[au `mt,F5 _ (fun k=>js kd.letters kd.len `mP' (i+k)) (min m (cc - i)) m `mt (fun k hk=>?_) fun k hk hkm=>?_]
   ·rfl
   ·show(Wqarao.opened kd).row (i+k)=_;rw[AM hG,ye,aD `mt]
   ·show(Wqarao.opened kd).row (i+k)=_;rw[AM hG,ye];rw[au `mt]
  rw[hq] at q;have NC:∀k,k<min m (cc - i)->(js kd.letters kd.len `mP' (i+k)).length=kd.len:=fun k hk=>JF _ _ _ (by rw[CZ hG,ye];omega);have X9:∀j,j<=min m (cc - i)->(((List.range j).map fun k=>js kd.letters kd.len `mP' (i+k)).flatMap fun(r:dh)=>r.length::r).length<=j*21:=by
   intro j
   induction j with
   |zero=>intro _;exact ax _
   |succ j ih=>
    intro hj;rw[eB,bj,List.map_singleton,BO,aE,aF,NC j `mt];have:=ih `mt;have:=gd.len;omega
  show 68
  refine wP (lo:=(i:Int)) (n:=min m (cc - i)) (fun j σ H'=>∃o4:Option V,σ=[some `bd',some (nV i),some (nV m),some `h1',o4]/\aM H H'/\H' q0=some (.lst (.int 0::(((List.range j).map fun k=>js kd.letters kd.len `mP' (i+k)).flatMap fun(r:dh)=>r.length::r).map nV))) #[none,rfl,s1,aq] ?_ ?_
  ·rintro j σ H' hj ⟨o4,rfl,s2,sw⟩;have fY:=X9 j `mt;generalize hL:(((List.range j).map fun k=>js kd.letters kd.len `mP' (i+k)).flatMap fun(r:dh)=>r.length::r)=L at sw fY;rw[show(i:Int)+(j:Int)=((i+j:Nat):Int) by omega];have UY:(V.int 0::L.map nV).length=L.length+1:=by rw[aF,ae]
   refine#[_,rfl,.inl #[rfl,_,SqL.of sw],_,rfl,r,C,dx,_,_,rfl,s2 _ _ h1,S.kc.cl,S.kc.f1,rfl,q0,_,_,rfl,rfl,sw,by omega,?_];have s3:aM H (bO H' q0 `cl'):=aM.put s2 uh;have e3:(bO H' q0 `cl') q0=some `cl':=aq;generalize bO H' q0 `cl'=H3 at s3 e3⊢
   refine#[_,rfl,.inl #[rfl,_,SqL.of e3],_,rfl,_,rfl,r,i+j,kd.len,kd.letters,kd.size,G,rt,rfl,(KD.at gd hK hG).same s3,by rw[CZ hG,ye];omega,fun H4 l s4 hl hl4=>?_];have WR:=NC j `mt;refine#[q0,l,_,_,rfl,rfl,s4 _ _ e3,hl4,?_,_,rfl,aM.put (s3.trans s4) uh,?_]
   ·rw[aE,UY,ae,WR];have:=gd.len;show L.length+1+1+_<=_;omega
   ·rw[aq,eB,bj,List.map_singleton,BO,hL,WR,bj];show some (HO.lst _)=_;simp
  ·rintro σ H' ⟨o4,rfl,s2,sw⟩;refine `hH';rw[sw,fz]
end
def iW (c:Nat) (gs ls:List Nat) (kd:aT):Answer:=
 if c=21 then tells `gS'
 else if c=22 then rowTold `jJ'
 else if c=27 then rO kd (gs.getD 0 0) (gs.getD 1 0)
 else if c=28 then o0 kd ls
 else if c=26 then uV kd ls
 else if ls.length≠kd.len then Wqarao.no (-2)
 else if c=23 then tL kd ls
 else if c=24 then rowTold ((Wqarao.opened kd).next ls)
 else rowTold ((Wqarao.opened kd).previous ls)
def Ax (kd:aT) (k:Nat):qF kd (k:Int)=rowTold ((Wqarao.opened kd).row k):=by
 unfold qF;rw[aD (fi k),bL]
section
variable {C fR fB fF fN fO fL:ak} {dR dB dF dN dO dL:aH}
structure Qa (K:ai) (mg:Str->Option aA) (f1 f2 f3 f4 f5:ak) (d1 d2 d3 d4 d5:aH):Prop where
 r:ub K mg "answer_row" yy f1 d1 `cF'
 s:ub K mg "answer_rows" vD f2 d2 `fI'
 d:ub K mg "answer_draw" v7 f3 d3 `jp'
 b:ub K mg "answer_beginning" yu f4 d4 `be'
 n:ub K mg "answer_number" rS f5 d5 `be'
def SU (C:ak):Sp:=fun vs H Q _=>∃(r ag al:ak) (c:Nat) (kd:aT) (gs ls:List Nat),vs=[.ref r,nV c,.ref ag,.ref al]/\KD C H r kd/\(Wqarao.opened kd).count<2^62/\H ag=some `eo'/\H al=some `fL'/\ls.length<=sizeLine/\(∀y∈ls,y<4294967296)/\
 21<=c/\c<=28/\(c=22->0<gs.length)/\`j4'/\MT H Q (iW c gs ls kd)
abbrev Rz:List Str:=`lo'
def SC:bY Rz Rz (aw tR):=`dl
def Of {f f1 f2 f3 f4 f5:ak} {fd d1 d2 d3 d4 d5:aH} (F:nv K "answer_about" "answer_about" tR f fd) (T:Txt5 K mg) (S:Qs K mg C fR fB fF fN fO fL dR dB dF dN dO dL) (A5:Qa K mg f1 f2 f3 f4 f5 d1 d2 d3 d4 d5):bT P w K mg base dj 4 f fd Rz (SU C):=by
 refine F.ok SC `ST `LE
 ·obtain⟨r,ag,al,c,kd,gs,ls,rfl,_⟩:=h;rfl
 ·obtain⟨r,ag,al,c,kd,gs,ls,rfl,ND,hc,hg,hl,Rk,hw,KY,Ek,abD,abm,q⟩:=h;obtain⟨gd,G,m,hK,hG⟩:=id ND;obtain⟨dx,la,wa,oA,qB,h1,_⟩:=id hK;obtain⟨t2,h2⟩:=T.c2;have ve:=y6 hG;refine⟨_,am (cC `dq' (aG (aY (db (aa aC (aa `XV (aa `XV (aa `XV (aa `XV aB)))))))) br)
   (am (cC `dq' (aG (aY (`nU' `d0' (hr.mono `KK) `IO A5.r.g A5.r.k A5.r.b .nil b9 (aa (pv 0) (aa (`nV' (pv 2) aC `Ch) aB))))) br)
   (am (cC `dq' (aG (aY (`nU' (HW (P:=P) (w:=w) (base:=base) A5.s.fn T S) (hr.mono `KK) `IO A5.s.g A5.s.k A5.s.b .nil b9 (aa (pv 0) (aa (`nV' (pv 2) aC `Ch) (aa (`nV' (pv 2) aC `Ch) aB)))))) br)
   (am (cC `dq' (aG (aY (`nU' (Hj (P:=P) (w:=w) (base:=base) A5.d.fn T S) hr `IO A5.d.g A5.d.k A5.d.b .nil b9 (aa (pv 0) `aY')))) br)
   (am (cC `dq' (aG (aY (`nU' (LD (P:=P) (w:=w) (base:=base) A5.b.fn T S) hr `IO A5.b.g A5.b.k A5.b.b .nil b9 (aa (pv 0) `aY')))) br)
   (am (cC (bb (l8 (dq eu `IO T.nLen cY `aY') `XV)) (aG (aY (db (aa (`ob' `IO h2 ⟨t2,rfl⟩) aB)))) br)
   (am (cC `dq' (aG (aY (`nU' (D9 (P:=P) (w:=w) (base:=base) A5.n.fn T S) hr `IO A5.n.g A5.n.k A5.n.b .nil b9 (aa (pv 0) `aY')))) br)
   (am (cC `dq' (aG (aY (`nU' `d0' (hr.mono `KK) `IO A5.r.g A5.r.k A5.r.b .nil b9 (aa (pv 0) (aa (dq (R7 rfl) `IO T.nSum boot_sum (aa (`nU' `bf' (hr.mono `KK) `IO S.b.g S.b.k S.b.b .nil b9 (aa (pv 0) `aY')) aB)) aB))))) br)
   (aG (aY (`nU' `d0' (hr.mono `KK) `IO A5.r.g A5.r.k A5.r.b .nil b9 (aa (pv 0) (aa (cJ u0 (`nW' (`nU' `bf' (hr.mono `KK) `IO S.b.g S.b.k S.b.b .nil b9 (aa (pv 0) `aY')) aC `Ch) aC) aB)))))))))))),?_⟩
  have CT:∀(a:Answer),iW c gs ls kd=a->MT H Q a:=fun a e=>by rw[<-e];exact q
  refine#[_,rfl,c,21,rfl,rfl,_,rfl,az `A' fun e1=>?_]
  ·have e:c=21:=by have:=af e;omega
   have q:=CT #[0,`gS'] (aD e);refine#[_,rfl,r,C,dx,_,_,rfl,h1,S.kc.cl,S.kc.f1,rfl,_,rfl,r,C,dx,_,_,rfl,h1,S.kc.cl,S.kc.f2,rfl,_,rfl,r,C,dx,_,_,rfl,h1,S.kc.cl,S.kc.f3,rfl,_,rfl,r,C,dx,_,_,rfl,h1,S.kc.cl,S.kc.f7,rfl,by show 5<=sizeLine;decide,fun l hl=>q.lst `M' ?_ l hl];rw[fz,ve];rfl
  have n1:c≠21:=by have:=aj e1;omega
  refine#[_,rfl,c,22,rfl,rfl,_,rfl,az `A' fun e2=>?_]
  ·have e:c=22:=by have:=af e;omega
   have hl0:=abD e;have q:=CT (rowTold `jJ') (by unfold iW;rw[au n1,aD e]);rw[<-Ax] at q;exact#[_,rfl,_,rfl,ag,_,0,_,rfl,rfl,SqL.of hg,bx (j:=0) (jM hl0),r,_,kd,rfl,ND,q]
  have n2:c≠22:=by have:=aj e2;omega
  refine#[_,rfl,c,27,rfl,rfl,_,rfl,az `A' fun e3=>?_]
  ·have e:c=27:=by have:=af e;omega
   obtain⟨rC,Zm⟩:=abm e;have q:=CT (rO kd (gs.getD 0 0) (gs.getD 1 0)) (by unfold iW;rw[au n1,au n2,aD e]);exact#[_,rfl,_,rfl,ag,_,0,_,rfl,rfl,SqL.of hg,bx (j:=0) (jM `mt),_,rfl,ag,_,1,_,rfl,rfl,SqL.of hg,bx (j:=1) (jM rC),r,kd,gs.getD 0 0,gs.getD 1 0,rfl,ND,hc,Zm,q]
  have n3:c≠27:=by have:=aj e3;omega
  refine#[_,rfl,c,28,rfl,rfl,_,rfl,az `A' fun e4=>?_]
  ·have e:c=28:=by have:=af e;omega
   have q:=CT (o0 kd ls) (by unfold iW;rw[au n1,au n2,au n3,aD e]);exact#[_,rfl,_,rfl,r,al,kd,ls,rfl,ND,hc,hl,Rk,hw,q]
  have n4:c≠28:=by have:=aj e4;omega
  refine#[_,rfl,c,26,rfl,rfl,_,rfl,az `A' fun e5=>?_]
  ·have e:c=26:=by have:=af e;omega
   have q:=CT (uV kd ls) (by unfold iW;rw[au n1,au n2,au n3,au n4,aD e]);exact#[_,rfl,_,rfl,r,al,kd,ls,rfl,ND,hl,q]
  have n5:c≠26:=by have:=aj e5;omega
  refine#[_,rfl,al,_,rfl,.inl (SqL.of hl),_,rfl,r,C,dx,_,_,rfl,h1,S.kc.cl,S.kc.f1,rfl,(ls.length:Int),(kd.len:Int),by rw[ae],rfl,_,rfl,az `A' fun e6=>?_]
  ·rw[show `K' (ls.length:Int) (kd.len:Int)=decide (ls.length≠kd.len) from lD] at e;have e:=af e;have q:=CT #[-2,[]] (by unfold iW;rw[au n1,au n2,au n3,au n4,au n5,aD e];rfl);show 19
  rw[show `K' (ls.length:Int) (kd.len:Int)=decide (ls.length≠kd.len) from lD] at e6;have n6:¬ls.length≠kd.len:=aj e6;have fY:ls.length=kd.len:=ku.mp n6;refine#[_,rfl,c,23,rfl,rfl,_,rfl,az `A' fun e7=>?_]
  ·have e:c=23:=by have:=af e;omega
   have q:=CT (tL kd ls) (by unfold iW;rw[au n1,au n2,au n3,au n4,au n5,au n6,aD e]);exact#[_,rfl,_,rfl,r,al,kd,ls,rfl,ND,hl,fY,q]
  have n7:c≠23:=by have:=aj e7;omega
  have CU:=Oa hG (r:=ls) `mt;refine#[_,rfl,c,24,rfl,rfl,_,rfl,az `A' fun e8=>?_]
  ·have e:c=24:=by have:=af e;omega
   have q:=CT (qF kd (((iL kd.letters kd.len `b4' ls).1+(iL kd.letters kd.len `b4' ls).2:Nat):Int)) (by
    unfold iW;rw[au n1,au n2,au n3,au n4,au n5,au n6,au n7,aD e,Ax];unfold Wqarao.Opened.next;rw[CU])
   refine `cx';refine#[t,[((iL kd.letters kd.len `b4' ls).1:Int),((iL kd.letters kd.len `b4' ls).2:Int)],rfl,iX.of Xu,r,_,kd,rfl,ND.same s1,fun H' l s' sJ tO=>q H' l (s1.trans s') (s1.free sJ) ?_];rw[tO]
   congr 3
  have n8:c≠24:=by have:=aj e8;omega
  have q:=CT (qF kd (((iL kd.letters kd.len `b4' ls).1:Int) - 1)) (by
   unfold iW;rw[au n1,au n2,au n3,au n4,au n5,au n6,au n7,au n8];unfold Wqarao.Opened.previous qF;rw[CU];show rowTold (if(iL kd.letters kd.len `b4' ls).1=0 then none else(Wqarao.opened kd).row ((iL kd.letters kd.len `b4' ls).1 - 1))=_;generalize (iL kd.letters kd.len `b4' ls).1=b;by_cases hb:b=0
   ·rw[aD hb,au `mt]
   ·rw[au hb,aD `mt,show((b:Int) - 1).toNat=b - 1 by omega])
  refine `cx';exact#[t,_,0,_,rfl,rfl,iX.of Xu,bx (j:=0) rfl,_,_,rfl,rfl,r,_,kd,rfl,ND.same s1,fun H' l s' sJ tO=>q H' l (s1.trans s') (s1.free sJ) tO]
end
def Kw {b:List Nat}:∀(t:List (List Nat)) (k:Nat),¬b∈t->(iV i5 k t).map (fun kv=>if kv.1=i5 b then(kv.1,nV 0) else kv)=iV i5 k t
 | [],_,_=>rfl
 |c::t,k,h=>by
  show(if i5 c=i5 b then _ else _)::(iV i5 (k+1) t).map _=(i5 c,nV k)::iV i5 (k+1) t;rw[au fun z=>h (by rw[k6 z];exact aI ..),Kw t (k+1) fun z=>h (aK _ z)]
def Mn {b:List Nat} {ks:List `at'} (h:ks=[]\/∃t,ks=b::t/\¬b∈t):ml (iV i5 0 ks) (i5 b) (nV 0)=iV i5 0 (RR.put b ks):=by
 rcases h with rfl| ⟨t,rfl,hn⟩
 ·rfl
 ·rw[jZ `dG'];show ml ((i5 b,nV 0)::iV i5 1 t) (i5 b) (nV 0)=(i5 b,nV 0)::iV i5 1 t;unfold ml;rw[aD `S',bw,Kw t 1 hn,aD rfl]
def Qi:Sp:=fun vs H Q _=>∃(st nm nd:ak) (L:Nat) (step:List (List Nat)) (names:List Nat) (ks:List (List Nat)),vs=`mG'/\k4 H st step/\H nm=some (.lst (names.map nV))/\H nd=some (.dT (iV i5 0 ks))/\(ks=[]\/∃t,ks=replicate L 0::t/\¬replicate L 0∈t)/\L<=20/\(ks.length<sizeLine/\(RR.put `ba' ks).length+step.length<=sizeLine)/\
 (∀c∈step,c.length<=20/\∀y∈c,y<names.length)/\
 ∀(H':Hp) (l:ak),(∀b o,H b=some o->b≠nd->H' b=some o)->H l=Option.none->H' l=some (.lst ((step.foldl `bE' (RR.put `ba' ks,[0])).2.map nV))->H' nd=some (.dT (iV i5 0 (step.foldl `bE' (RR.put `ba' ks,[0])).1))->Q `cp' H'
def BN {f:ak} {fd:aH} (F:nv K "merge" "merge" uO f fd) (T:Txt1 K mg):bT P w K mg base dj 1 f fd `a1' Qi:=by
 refine F.ok lV `ST `LE
 ·obtain⟨st,nm,nd,L,step,names,ks,rfl,_⟩:=h;rfl
 ·obtain⟨st,nm,nd,L,step,names,ks,rfl,⟨as,hA,hT⟩,hN,hD,Tu,hL,⟨hz0,hz⟩,hc,k⟩:=h;have WS:=jS (Eb `ba' ks);obtain⟨td,gu⟩:=T.dead;have hu:=ux hr;refine⟨_,am (DP hu (pv 3) (cJ yz (eP (aa (`nX' `IO gu ⟨td,rfl⟩) aB)) (pv 1)) (`nX' `IO gu ⟨td,rfl⟩) rfl)
   (am (`n9' lV.nd rfl `Cl (db (aa (`nX' `IO gu ⟨td,rfl⟩) aB)))
   (am (mf cD rfl (iF (pv 0)) (cp (i:=5) lV.nd rfl `Cl)
    (am (`od' lV.nd rfl `Cl (mw qG `IO T.nTuple boot_tuple (aa (`oi' rfl lV.nd (DC (pv 5)) (di `IO) (fun _ _ _ _ _=>cp (i:=7) lV.nd rfl `Cl) `aw'
     (fun _ _ _ _ _=>bz (r:=ic K) bi (pv 2) (pv 7) `Ch)) aB)))
    (aG (gZ (nZ bu bX bW gN (pv 4)
     (aa (AS hu (pv 3) (pv 6) (dq xo `IO T.nLen cY `aY') `lE') aB))))))
   (aG (aY (pv 4))))),?_⟩
  show 222;have s3:aM H H3:=(aM.new hp).trans s3;have ez:replicate L (V.int 0)=(i5 `ba').map kV:=by rw[rF,l5];rfl
  rw[ez] at hb;have Uj:(iV i5 0 ks).length<sizeLine:=by rw[kZ];omega
  show 116
  refine `iI';have hq3:H3 q=Option.none:=by
   have lH:q≠nd:=fun z=>by rw[z,aq] at hq;cases hq
   rw[aZ lH] at hq;exact hq
  have uh:H q=Option.none:=s3.free hq3;have Uo:nd≠q:=fun z=>kI q uh z.symm;have pn:∀b,b∈as->b≠nd:=fun b hb=>by
   show 119
  have Nz:st≠nd:=eD hA hD `XL;have Us:nm≠nd:=eD hN hD `XL;refine⟨_,rfl,st,rfl,⟨as.map V.ref,SqL.of ?_⟩,pI (K:=K) (a:=st) (xs:=as.map V.ref) (fun i σ H'=>∃v v2:Option V,σ=`aA'/\oU nd H H'/\
   H' q=some (.lst (((step.take i).foldl `bE' (RR.put `ba' ks,[0])).2.map nV))/\H' nd=some (.dT (iV i5 0 ((step.take i).foldl `bE' (RR.put `ba' ks,[0])).1)))
   #[none,none,rfl,?_,aq,?_] `gu' ?_ ?_⟩
  ·rw[aZ (a9 hA uh),aZ Nz];exact s3 _ _ hA
  ·exact((oU.of s3).here).put uh
  ·rw[aZ Uo,aq];show some (HO.dT (ml (iV i5 0 ks) (i5 `ba') (nV 0)))=_;rw[Mn Tu];rfl
  ·show 86;have QO:c∈step:=aQ tN;have Xy:i<step.length:=(bd.mp tN).1;have Nm:c0≠nd:=pn c0 (aQ Jp);have yE:((step.take i).foldl `bE' (RR.put `ba' ks,[0])).1.length<sizeLine:=by
    have:_<=(RR.put `ba' ks).length+_:=pf names `mg' (RR.put `ba' ks,[0]);rw[be] at this;omega
   have KQ:((step.take i).foldl `bE' (RR.put `ba' ks,[0])).2.length<sizeLine:=by
    obtain⟨_,m,e,hm⟩:=jJ names `mg' (RR.put `ba' ks,[0]);rw[e,aE,hm,be,cz];omega
   rw[tT `bE' _ tN];generalize (step.take i).foldl `bE' (RR.put `ba' ks,[0])=z at sw wn yE KQ;refine⟨_,rfl,c0,rfl,⟨_,iX.of `lj'⟩,fun D UV=>IP (K:=K) (a:=c0) (xs:=c.map nV) `eW'
    #[aM.new UV,aq] (fun j H3 _ ⟨s3,_⟩=>iX.of (s3 _ _ `lj')) ?_ ?_⟩
   ·show 96
    ·rw[aR,ao KO,cQ KO];rfl
    ·show 131
     omega
    ·exact aM.put s4 UV
    ·rw[aq,vT (l:=cH names c) nV (i:=j) (x:=names.getD n 0) `nn']
   ·show 107
    show 25
    have Bg:H l=Option.none:=by
     have sJ:=s4.free hl;cases e:H l with
     |none=>rfl
     |some o=>
      by_cases z:l=nd
      ·rw[z,wn] at sJ;cases sJ
      ·rw[s2 l o e z] at sJ;cases sJ
    have oH:∀(v:Nat) (H6:Hp),oU nd H H6->H6 q=some (.lst (z.2.map nV))->H6 nd=some (.dT (iV i5 0 (RR.put `c2' z.1)))->v=(RR.put `c2' z.1).idxOf `c2'->
     ∃l_1 xs y,V.ref q=V.ref l_1/\[nV v]=[y]/\H6 l_1=some `bh'/\xs.length<sizeLine/\(fun σ H'=>∃v v2:Option V,σ=`aA'/\oU nd H H'/\
      H' q=some `lH'/\H' nd=some `lG') [some (.ref st),some (nV L),some (.ref nm),some (.ref nd),some (.ref q),some (.ref c0),some `cp',none] (bO H6 l_1 `i2'):=fun v H6 s6 h1 h2 h3=>by
     refine `fw'
     ·rw[aq,h3];show _=some `ne';rw[bj];rfl
     ·rw[aZ Uo];exact h2
    have XT:=s2.trans (oU.of s5);refine `a3'
    ·show 155
     ·show 92
     ·rw[(iK `eh' _ _ _).2 hm] at hv;cases hv
    ·show 155
     ·rw[(iK `eh' _ _ _).1 hm] at hv;cases hv
     ·refine oH (iV i5 0 z.1).length _ XT.here ?_ ?_ ?_
      ·rw[aZ Uo.symm];exact US
      ·rw[aq,mS hm,rk,cE,kZ]
      ·rw[mS hm,mD,au hm,kO,kZ];omega
  ·show 100
   show 225
abbrev D8:du:=my 12
abbrev Qq:du:=my 13
def aaI:Sp:=fun vs H Q _=>∃(ll:ak) (as:List ak) (M l r:Nat) (G:List (List (List Nat))),vs=[.ref ll,nV l,nV r]/\H ll=some `aq'/\Paired `dD' as G/\iG M G/\M<=20/\G.length<=20/\l<cj G/\r<cj G/\l≠r/\
 ∀(H':Hp) (p:ak),aM H H'->H p=Option.none->H' p=some (.lst ((E6 M G l r).map nV))->Q `dR' H'
abbrev aaH:List Str:=["layers","left","right","way","layer","pairs","x"]
def xD:bY aaH `dL' (aw Qq):=`dl
def VB {f:ak} {fd:aH} (F:nv K "first_way_apart" "first_way_apart" Qq f fd) (T:Txt5 K mg):bT P w K mg base dj 1 f fd `dL' aaI:=by
 refine F.ok xD `ST `LE
 ·obtain⟨ll,as,M,l,r,G,rfl,_⟩:=h;rfl
 ·obtain⟨ll,as,M,l,r,G,rfl,UY,hP,g,hM,hG,hl,qe,lH,q⟩:=h;show 68
  refine⟨_,am (`n2' xD.nd rfl `Cl `l6')
   (am (mf cD rfl (iF (pv 0)) (cp (i:=4) xD.nd rfl `Cl)
    (am (`n7' xD.nd rfl `Cl (FW rfl `IO T.nList `IO T.nZip (aa (`nV' (pv 4) (pv 1) `Ch) (aa (`nV' (pv 4) (pv 2) `Ch) aB))))
    (am (`od' xD.nd rfl `Cl aC)
    (am (tK cD (bb (da (`nW' (`nV' (pv 5) (pv 6) `Ch) aC `Ch) (`nW' (`nV' (pv 5) (pv 6) `Ch) aC `Ch)))
     (aG (uG (i:=6) xD.nd rfl `Cl aC A7)))
    (am (gZ (nZ bu bX bW gN (pv 3) (aa (pv 6) aB)))
    (am (`oo' xD.nd rfl `Cl (`nW' (`nV' (pv 5) (pv 6) `Ch) aC `Ch))
    (aG (`n1' xD.nd rfl `Cl (`nW' (`nV' (pv 5) (pv 6) `Ch) aC `Ch)))))))))
   (aG `jA')),?_⟩
  refine⟨aN _,fun q0 uh=>?_⟩;have s1:aM H (bO H q0 `bo'):=aM.new uh;have hal:=bH hP;refine⟨_,rfl,ll,rfl,⟨_,SqL.of (s1 _ _ UY)⟩,pI (K:=K) (a:=ll) (xs:=as.map V.ref) (fun i σ H'=>∃(o4 o5 o6:Option V) (a b:Nat) (dn:List Nat),σ=[some (.ref ll),some (nV a),some (nV b),some `h1',o4,o5,o6]/\aM H H'/\H' q0=some `lI'/\dn.length=i/\a<cj `ar'/\b<cj `ar'/\a≠b/\
   E6 M G l r=dn++E6 M `ar' a b)
   #[none,none,none,l,r,[],rfl,s1,aq,rfl,hl,qe,lH,rfl] (fun i σ H' _ ⟨_,_,_,_,_,_,_,s2,_⟩=>SqL.of (s2 _ _ UY)) ?_ ?_⟩
  ·rintro i y σ H' hi ⟨o4,o5,o6,a,b,dn,rfl,s2,hq,Xj,ha,hb,K1,UM⟩;obtain⟨ba,hba,rfl⟩:=wT hi;obtain⟨ly,NA,bs,Eu,QH⟩:=fE hP hba;have wv:=(bd.mp NA).1;have U0:G.getD i []=ly:=by rw[ay,NA];rfl
   have xS:=uX g wv;rw[U0] at xS;rw[nF wv,U0] at ha hb;obtain⟨ta,e1,e2⟩:=nL QH ha;obtain⟨tb,e3,e4⟩:=nL QH hb;have Jb:=xS.len _ (RR.getD_mem (d:=[]) ha);have hcb:=xS.len _ (RR.getD_mem (d:=[]) hb);obtain⟨x0,f1,f2,f3,f4⟩:=EL xS ha hb K1;have Zl:G.drop i=ly::G.drop (i+1):=by rw[nz (d:=[]) wv,U0]
   have hwx:E6 M `ar' a b=x0::E6 M `aH' ((ly.getD a []).getD x0 0) ((ly.getD b []).getD x0 0):=by
    rw[Zl];show `dW'::E6 M `aH' ((ly.getD a []).getD `dW' 0) ((ly.getD b []).getD `dW' 0)=_;rw[f1];rfl
   refine#[_,rfl,_,rfl,fG (s2 _ _ Eu) (iu e1) #[_,rfl,_,rfl,fG (s2 _ _ Eu) (iu e3) #[ta,tb,_,_,rfl,s2 _ _ e2,s2 _ _ e4,by rw[ae,ae,Jb,hcb],by rw[ae,Jb];omega,fun pl H3 ts sI s3 UX WV=>?_]]];have Zo:ts.length=M:=by
    rw[wR WV,i9,ae,ae,Jb,hcb];omega
   have lI:∀x,x<M->ts[x]? =some (ts.getD x 0)/\H3 (ts.getD x 0)=some (.tup [nV ((ly.getD a []).getD x 0),nV ((ly.getD b []).getD x 0)]):=fun x hx=>#[by rw[cQ (show x<ts.length by omega)];exact ao `mt,F6 WV (by rw[Jb];exact hx) (by rw[hcb];exact hx)]
   refine#[fun μ σ H4=>∃x,μ=M - x/\x<=x0/\σ=[some (.ref ll),some (nV a),some (nV b),some `h1',some (.ref ba),some (.ref pl),some (nV x)]/\H4=H3,#[M,0,rfl,aN _,rfl,rfl],?_];rintro μ σ H4 ⟨x,rfl,hx,rfl,rfl⟩;have hxM:x<M:=by omega
   obtain⟨g1,g2⟩:=lI x hxM;have hqH:H4 q0=some `lI':=s3 _ _ hq;refine#[_,rfl,_,rfl,fG UX (iu g1) #[ts.getD x 0,_,0,_,rfl,rfl,iX.of g2,bx (j:=0) rfl,_,rfl,_,rfl,fG UX (iu g1) #[ts.getD x 0,_,1,_,rfl,rfl,iX.of g2,bx (j:=1) rfl,_,_,rfl,rfl,_,rfl,az `A' fun e=>?_]]]
   ·have e:=af e;have e:(ly.getD a []).getD x 0=(ly.getD b []).getD x 0:=Int.ofNat.inj e;have Bf:x<x0:=by
     rcases iD x x0 with z|z
     ·exact z
     ·obtain rfl:x=x0:=by omega
      unfold mZ at f3;rw[e] at f3;simp at f3
    exact#[fun σ' H'=>σ'=[some (.ref ll),some (nV a),some (nV b),some `h1',some (.ref ba),some (.ref pl),some (nV (x+1))]/\H'=H4,fun σ' H' ⟨e1,e2⟩=>#[M - (x+1),by omega,x+1,rfl,Bf,e1,e2],_,rfl,_,_,rfl,rfl,rfl,rfl]
   ·have e:=aj e;obtain rfl:x=x0:=by
     rcases iD x x0 with z|z
     ·exfalso;have:=f4 x z;unfold mZ at this;have this:(ly.getD a []).getD x 0=(ly.getD b []).getD x 0:=by simpa using this
      exact e (by rw[this])
     ·omega
    refine#[_,rfl,.inl #[rfl,_,SqL.of hqH],_,rfl,q0,_,_,rfl,rfl,hqH,by rw[ae];omega,?_];have abO:pl≠q0:=fun z=>by rw[z] at sI;rw[hq] at sI;cases sI
    have htq:ts.getD x 0≠q0:=eD g2 hqH `XL;have s5:aM H `cT':=aM.put `gf' uh;have z1:`cT' pl=_:=(aZ abO).trans UX;have z2:`cT' (ts.getD x 0)=_:=(aZ htq).trans g2;have z3:`cT' q0=some (.lst ((dn++[x]).map nV)):=by rw[aq,EM]
    generalize bO H4 q0 (.lst (dn.map nV++[nV x]))=H5 at s5 z1 z2 z3⊢
    refine#[_,rfl,_,rfl,fG z1 (iu g1) #[ts.getD x 0,_,0,_,rfl,rfl,iX.of z2,bx (j:=0) rfl,_,rfl,_,rfl,fG z1 (iu g1) #[ts.getD x 0,_,1,_,rfl,rfl,iX.of z2,bx (j:=1) rfl,?_]]];have TH:∀m,m<ly.length->(ly.getD m []).getD x 0<cj `aH':=fun m hm=>xS.lt _ `ja' _ (RR.getD_mem (by rw[xS.len _ `ja'];exact hxM));refine#[some (.ref ba),some (.ref pl),some (nV x),(ly.getD a []).getD x 0,(ly.getD b []).getD x 0,dn++[x],rfl,s5,z3,by rw[aE,Xj];rfl,TH a ha,TH b hb,?_,by rw[UM,hwx,cI];rfl];unfold mZ at f3
    simpa using f3
  ·rintro σ H' ⟨o4,o5,o6,a,b,dn,rfl,s2,hq,Xj,ha,hb,K1,UM⟩;have sJ:(as.map V.ref).length=G.length:=by rw[ae,hal]
   rw[sJ,fx] at UM;refine `hH';rw[UM,show E6 M [] a b=[] from rfl,bU];exact hq
section
def sN {α β:Type} {R:α->β->Prop}:∀{l:List α} {m:List β},Paired R l m->∀n,Paired R (l.drop n) (m.drop n)
 |_,_,.nil,n=>by rw[nI,nI];exact .nil
 |_,_,.cons h t,0=>.cons h t
 |_,_,.cons _ t,n+1=>sN t n
def JH {xs:List ak}:ou (xs.map V.ref) (some 1) none=(xs.drop 1).map V.ref:=by
 unfold ou;rw[show(1:Int)=((1:Nat):Int) from rfl,HT.sIx_nat,HT.sIx_none,ae];cases xs with
 |nil=>rfl
 |cons x xs=>
  rw[aF,show min 1 `mh'=1 by omega,bw,oC,fZ,oC,fZ,cS `iw']
def Ku {H:Hp} {l:ak} {M:Nat} {G:List `Id} (x:qw H l M G) {i:Nat} (hi:i<G.length):∃(as bs:List ak) (b:ak),H l=some `aq'/\as[i]? =some b/\H b=some `aL'/\Paired `ad' bs ((G.getD i []).map (j5 M)):=by
 show 63;rw[cQ hi];exact#[as,bs,_,h1,ao `mt,e2,e3]
def Rq {M:Nat} {la lb:List `at'} {ra rb:List `Id}:BB M (la::ra) (lb::rb)=
 ((qJ M (BB M ra rb).1 [] `am').2,(qJ M (BB M ra rb).2.1 (qJ M (BB M ra rb).1 [] `am').1 `bY').2,
  (qJ M (BB M ra rb).2.1 (qJ M (BB M ra rb).1 [] `am').1 `bY').1::(BB M ra rb).2.2):=rfl
def EH {L M k:Nat} {ly:List `at'} {names:List Nat} (hl:so L k ly) (hk:0<k) (hn:names.length=k) (hM:M<=20):∀c∈(ly.map (j5 M)).drop 1,c.length<=20/\∀y∈c,y<names.length:=fun c hc=>by
 obtain⟨d,hd,rfl⟩:=aV.mp (nT hc);refine#[by rw[kE];exact hM,fun y hy=>?_];obtain⟨j,hj,ej⟩:=cg.mp hy;have hjM:j<M:=by rw[kE] at hj;exact hj
 rw[<-ej,<-cQ hj,qX _ hjM,hn];by_cases Tq:j<d.length
 ·exact hl.lt _ hd _ (RR.getD_mem Tq)
 ·rw[ay,bc `mt];exact hk
def RJ (C:ak):Sp:=fun vs H Q _=>∃(ra rb:ak) (ka kb:aT),vs=`d1'/\KD C H ra ka/\KD C H rb kb/\ka.len=kb.len/\(Wqarao.apart ka kb=none->∀H',aM H H'->Q .non H')/\
 ∀r,Wqarao.apart ka kb=some r->∀(H':Hp) (l:ak),aM H H'->H l=Option.none->H' l=some (.lst (r.map nV))->Q `cp' H'
abbrev R1:List Str:=["a","b","letters","left","right","left_names","right_names","layers","place","nodes"]
def mO:bY R1 `cg' (aw D8):=`dl
def PP {f C fF fM fW:ak} {fd Ui fdM fdW:aH} (F:nv K "first_apart" "first_apart" D8 f fd) (KC:oQ K C) (T:Txt5 K mg) (S:ub K mg "fit_letters" Mf fF Ui `eA') (SM:ub K mg "merge" uO fM fdM `a1') (SW:ub K mg "first_way_apart" Qq fW fdW `dL'):bT P w K mg base dj 2 f fd `cg' (RJ C):=by
 refine F.ok mO `ST `LE
 ·show 74;rfl
 ·obtain⟨ra,rb,ka,kb,rfl,⟨yf,Ga,ma,ED,GV,CS,yc,GN⟩,⟨El,Gb,mb,GE,Ev,KN,yb,GO⟩,Bg,qn,qs⟩:=h;show 14;obtain⟨td,gu⟩:=T.dead;obtain⟨te,Rh⟩:=T.endd;show 68
  have hu:=ux hr;refine⟨_,am (`n1' mO.nd rfl `Cl (dq (xl rfl) `IO T.nMax `BT (aa `XV (aa `U' aB))))
   (am (`n2' mO.nd rfl `Cl (`n0' `nc' hr `IO S.g S.k S.b .nil b9 (aa (pv 0) `aC')))
   (am (`n9' mO.nd rfl `Cl (`n0' `nc' hr `IO S.g S.k S.b .nil b9 (aa (pv 1) `aC')))
   (am (`n7' mO.nd rfl `Cl (db (aa (`nX' `IO gu ⟨td,rfl⟩) (aa (bQ (v:=.int 1) `IO Rh ⟨te,rfl⟩) aB))))
   (am (`od' mO.nd rfl `Cl (db (aa (`nX' `IO gu ⟨td,rfl⟩) (aa (bQ (v:=.int 1) `IO Rh ⟨te,rfl⟩) aB))))
   (am (bP (i:=7) mO.nd rfl `Cl `l6')
   (am (mf cD rfl (Mj `IO T.nRange (aa (cJ u0 `XV aC) (aa `nd' (aa `nd' aB)))) (cp (i:=8) mO.nd rfl `Cl)
    (am (bP (i:=9) mO.nd rfl `Cl yJ)
    (am (`n7' mO.nd rfl `Cl (`n0' `lu' hr `IO SM.g SM.k SM.b .nil b9 (aa (iB nJ (bz bi (pv 3) (pv 8) `Ch) (im aC) lU) (aa (pv 2) (aa (pv 5) `kT')))))
    (am (`od' mO.nd rfl `Cl (`n0' `lu' hr `IO SM.g SM.k SM.b .nil b9 (aa (iB nJ (bz bi (pv 4) (pv 8) `Ch) (im aC) lU) (aa (pv 2) (aa (pv 6) `kT')))))
    (aG (gZ (nZ bu bX bW gN (pv 7) (aa (mw (si rfl) `IO T.nList boot_list `kT') aB))))))))
   (am (gZ (IS bu lw lv uH (pv 7)))
   (am (cC (bb (da (bz bi (pv 5) `XV `Ch) (bz bi (pv 6) `U' `Ch))) `b1' br)
   (aG (aY (`n0' (VB (P:=P) (w:=w) SW.fn T) hr `IO SW.g SW.k SW.b .nil b9 (aa (pv 7) (aa (bz bi (pv 5) `XV `Ch) (aa (bz bi (pv 6) `U' `Ch) aB)))))))))))))),?_⟩
  refine#[_,rfl,ra,C,dx,_,_,rfl,h1,KC.cl,KC.f2,rfl,_,rfl,rb,C,Bm,_,_,rfl,xT,KC.cl,KC.f2,rfl,_,_,rfl,?_];rw[DM];have hM:max ka.letters kb.letters<=20:=by have:=yf.let_;have:=El.let_;omega
  have hLa:ka.letters<=max ka.letters kb.letters:=Nat.le_max_left _ _;have hLb:kb.letters<=max ka.letters kb.letters:=Nat.le_max_right _ _;generalize max ka.letters kb.letters=M at hM hLa hLb⊢
  show 67
  refine#[by show 2<=sizeLine;decide,fun n1 hn1=>#[by show 2<=sizeLine;decide,fun n2 Ww=>#[aN _,fun q0 uh=>?_]]];have t1:=aM.new hn1 (o:=.lst `nT');have e1:(bO H2 n1 `bt') n1=some `bt':=aq;generalize bO H2 n1 `bt'=H3 at*
  have t2:=aM.new Ww (o:=.lst `nT');have e2:(bO H3 n2 `bt') n2=some `bt':=aq;generalize bO H3 n2 `bt'=H4 at*
  have t3:=aM.new uh (o:=.lst []);have e3:(bO H4 q0 `bo') q0=some `bo':=aq;have QX:=uh;generalize bO H4 q0 `bo'=H5 at*
  have s24:=t1.trans t2;have s4:=MQ.trans s24;have abY:=X9.same s24;have abd:=QF.same s24;have Ux:=s4.free QX;have Tw: -(2^62)<=(ka.len:Int) - 1/\(ka.len:Int) - 1<2^62:=by
   have:=yf.len;have:(20:Int)<2^62:=by decide
   omega
  refine⟨_,rfl,ra,C,dx,_,_,rfl,t3 _ _ (s4 _ _ h1),KC.cl,KC.f1,rfl,_,_,rfl,rfl,1,rfl,1,rfl,(ka.len:Int) - 1,-1,-1,_,rfl,RgC.neg Tw.1 Tw.2 `KK `KK,?_⟩;rw[show((ka.len:Int) - 1 - -1).toNat=ka.len by omega];refine Ih (fun j σ H'=>∃(o8 o9:Option V) (a1 a2:ak) (as:List ak),σ=[some (.ref ra),some (.ref rb),some (nV M),some (.ref lf),some (.ref rt),some (.ref a1),some (.ref a2),some `h1',o8,o9]/\aM H4 H'/\H' q0=some `aq'/\a1≠q0/\a2≠q0/\
   H' a1=some (.lst ((BB M (Ga.drop `dw') (Gb.drop `dw')).1.map nV))/\H' a2=some (.lst ((BB M (Ga.drop `dw') (Gb.drop `dw')).2.1.map nV))/\Paired `my' as (BB M (Ga.drop `dw') (Gb.drop `dw')).2.2.reverse)
   #[none,none,n1,n2,[],rfl,t3,e3,a9 (t2 _ _ e1) QX,a9 e2 QX,?_,?_,?_] ?_ ?_
  ·rw[iC,eL `mt,eL `mt];exact t3 _ _ (t2 _ _ e1)
  ·rw[iC,eL `mt,eL `mt];exact t3 _ _ e2
  ·rw[iC,eL `mt,eL `mt];exact .nil
  ·rintro j σ H' hj ⟨o8,o9,a1,a2,as,rfl,sH,hq,XQ,Xr,MG,Wq,Uk⟩;have sI:(ka.len:Int) - 1+(j:Int)*(-1)=((ka.len - 1 - j:Nat):Int):=by omega
   rw[sI];have UI:ka.len - 1 - j<Ga.length:=by omega
   have UB:ka.len - 1 - j<Gb.length:=by omega
   have Wn:Ga.drop (ka.len - (j+1))=Ga.getD `jk' []::Ga.drop `dw':=by
    rw[show ka.len - (j+1)=ka.len - 1 - j by omega,nz (d:=[]) UI,show ka.len - 1 - j+1=ka.len - j by omega]
   have hdB:Gb.drop (ka.len - (j+1))=Gb.getD `jk' []::Gb.drop `dw':=by
    rw[show ka.len - (j+1)=ka.len - 1 - j by omega,nz (d:=[]) UB,show ka.len - 1 - j+1=ka.len - j by omega]
   have hok:=Pz hLa hLb (io GV `dw') (io Ev `dw') (by rw[b6,b6];omega);have hlA:=uX GV UI;have hlB:=uX Ev UB;rw[show ka.len - 1 - j+1=ka.len - j by omega] at hlA hlB;have WM:as.length<=20:=by
    have:=bH Uk;rw[jx,hok.len,b6] at this;have:=yf.len;omega
   rw[Wn,hdB,Rq];have hha:=h6 _ (RR.getD_mem (d:=[]) UI);have hhb:=h6' _ (RR.getD_mem (d:=[]) UB);generalize BB M (Ga.drop `dw') (Gb.drop `dw')=z at MG Wq Uk hok⊢
   generalize hlya:Ga.getD `jk' []=lya at hlA hha⊢
   generalize hlyb:Gb.getD `jk' []=lyb at hlB hhb⊢
   have Jf:rJ+rJ=sizeLine:=by decide
   show 150;generalize bO H' nd `m6'=Hx at*
   have sx:=sH.trans u1;obtain⟨pa,pb,pc,p1,p2,p3,p4⟩:=Ku (abY.same sx) UI;rw[hlya] at p4;refine#[_,rfl,_,rfl,fG p1 (iu p2) #[1,rfl,pc,_,rfl,SqL.of p3,fun sl S9=>?_]];rw[JH];have u2:=aM.new S9 (o:=.lst `fD');have esl:(bO Hx sl (.lst `fD')) sl=some (.lst `fD'):=aq;generalize bO Hx sl (.lst `fD')=Hy at*
   have abq:((lya.map (j5 M)).drop 1).length+1<=rJ:=by
    rw[b6,ae];have:=hlA.pos;omega
   have acG:(RR.put `bk' []).length=1:=rfl;refine#[_,rfl,_,rfl,_,rfl,sl,a1,nd,M,(lya.map (j5 M)).drop 1,z.1,[],rfl,#[pb.drop 1,esl,b4 (fun b c e=>u2 _ _ e) (sN p4 1)],u2 _ _ (u1 _ _ MG),u2 _ _ Q0,.inl rfl,hM,#[by show 0<sizeLine;decide,by omega],EH hlA (mU (io GV _)) hok.la hM,fun Hz b1 kz NM aaO abl=>?_];have kz1:=fun c o e=>kz c o (u2 _ _ (u1 _ _ e)) (a9 e pz);have sz4:=fun c o e=>kz1 c o (sH _ _ e);obtain⟨pa',X4,pc',p1',p2',p3',p4'⟩:=Ku (abd.same sz4) UB;rw[hlyb] at p4';refine#[_,rfl,_,rfl,fG p1' (iu p2') #[1,rfl,pc',_,rfl,SqL.of p3',fun Wl aaQ=>?_]];rw[JH];have u3:=aM.new aaQ (o:=.lst `fC');have abF:(bO Hz Wl (.lst `fC')) Wl=some (.lst `fC'):=aq;generalize bO Hz Wl (.lst `fC')=Hw at*
   have abg:((lyb.map (j5 M)).drop 1).length+1<=rJ:=by
    rw[b6,ae];have:=hlB.pos;omega
   have Tr:(qJ M z.1 [] `a7').1.length<=1+((lya.map (j5 M)).drop 1).length:=pf z.1 _ (RR.put `bk' [],[0]);have TL:∃t,(qJ M z.1 [] `a7').1=replicate M 0::t/\¬replicate M 0∈t:=by
    obtain⟨⟨l,e1⟩,_⟩:=jJ z.1 `a7' (RR.put `bk' [],[0]);have e1:(qJ M z.1 [] `a7').1=replicate M 0::l:=e1;have nd:=og z.1 `a7' (RR.put `bk' [],[0]) (qZ .nil);have nd:(qJ M z.1 [] `a7').1.Nodup:=nd;rw[e1] at nd;exact#[l,e1,(fk.mp nd).1]
   have Xl:(RR.put `bk' (qJ M z.1 [] `a7').1)=(qJ M z.1 [] `a7').1:=jZ (by obtain⟨t,e,_⟩:=TL;rw[e];exact aI ..);refine#[_,rfl,_,rfl,_,rfl,Wl,a2,nd,M,(lyb.map (j5 M)).drop 1,z.2.1,(qJ M z.1 [] `a7').1,rfl,#[X4.drop 1,abF,b4 (fun b c e=>u3 _ _ e) (sN p4' 1)],u3 _ _ (kz1 _ _ Wq),u3 _ _ abl,.inr TL,hM,#[by omega,by rw[Xl];omega],EH hlB (mU (io Ev _)) hok.lb hM,fun Hv b2 kv NF aaU abL=>?_];have kv1:=fun c o e=>kv c o (u3 _ _ (kz1 _ _ e)) (a9 e pz);have aa6:b1≠nd:=fun e=>by rw[e,u2 _ _ Q0] at NM;cases NM
   have aaW:=kv _ _ (u3 _ _ aaO) aa6;have hqv:=kv1 _ _ hq;have W7:b1≠q0:=fun e=>by rw[e,u2 _ _ (u1 _ _ hq)] at NM;cases NM
   have Zu:b2≠q0:=fun e=>by rw[e,u3 _ _ (kz1 _ _ hq)] at NF;cases NF
   refine#[_,rfl,.inl #[rfl,_,SqL.of hqv],_,rfl,An abL fun l1 bs rC Eu=>?_];have v1:aM Hv (bO Hv l1 `aL'):=aM.new rC;have el1:(bO Hv l1 `aL') l1=some `aL':=aq;generalize bO Hv l1 `aL'=Hu at*
   have abX:l1≠q0:=fun e=>by rw[e,hqv] at rC;cases rC
   refine#[q0,_,_,rfl,rfl,v1 _ _ hqv,by rw[ae];omega,?_];refine#[_,_,b1,b2,as++[l1],rfl,fun c o e=>?_,by rw[aq,bj];rfl,W7,Zu,?_,?_,?_]
   ·rw[aZ (a9 e QX)];exact v1 _ _ (kv1 _ _ (sH _ _ e))
   ·rw[aZ W7];exact v1 _ _ aaW
   ·rw[aZ Zu];exact v1 _ _ aaU
   ·rw[J8,fT];refine gH #[bs,by rw[i6 abX];exact el1,b4 (fun t c e=>?_) Eu] (b4 `jC' Uk)
    ·obtain⟨n1,n2⟩:=mP e;rw[i6 n1];exact v1 _ _ (kv1 _ _ n2)
    ·rw[i6 (eD e hqv `XL)];exact v1 _ _ e
  ·rintro σ H' ⟨o8,o9,a1,a2,as,rfl,sH,hq,XQ,Xr,MG,Wq,Uk⟩;rw[lc,fZ,fZ] at MG Wq Uk;have hok:=Pz hLa hLb GV Ev `mt;generalize BB M Ga Gb=z at MG Wq Uk hok;have sHH:=s4.trans sH;refine#[_,rfl,.inl #[rfl,_,SqL.of hq],q0,_,rfl,rfl,hq,?_];rw[<-qP];have eq':(bO H' q0 `d7') q0=some `d7':=aq;have kq:∀c o,H' c=some o->c≠q0->(bO H' q0 `d7') c=some o:=fun c o ec hc=>by rw[aZ hc];exact ec
   generalize bO H' q0 `d7'=Hq at*
   have W9:aM H Hq:=fun c o e=>kq _ _ (sHH _ _ e) (a9 e Ux);have x1:=W9 _ _ h1;have Jl:=W9 _ _ xT;have y1:=kq _ _ MG XQ;have y2:=kq _ _ Wq Xr;have hPr:=rE Uk;rw[nR] at hPr;have hPr:=b4 (fun c KM t=>k4.same t (fun b o e=>kq _ _ (mP e).2 (mP e).1)) hPr;refine#[_,rfl,_,rfl,ra,C,dx,_,_,rfl,x1,KC.cl,KC.f4,rfl,fG y1 `mU' #[_,rfl,_,rfl,rb,C,Bm,_,_,rfl,Jl,KC.cl,KC.f4,rfl,fG y2 `mV' #[_,_,rfl,rfl,_,rfl,az `A' fun e=>?_]]]
   ·have e:=af e;have e:=Int.ofNat.inj e;refine qn (G9 Bg fun r hr=>?_) Hq W9;rw[<-GN r hr,<-GO r `mt,<-hok.fa ma yc,<-hok.fb mb yb,e]
   ·have e:=aj e;have lH:z.1.getD ma 0≠z.2.1.getD mb 0:=fun w=>e (by rw[w]);obtain⟨w1,w2,w3,w4⟩:=T4 hok.gr (hok.ta ma yc) (hok.tb mb yb) lH;have fY:z.2.2.length=ka.len:=by rw[hok.len,CS]
    have tr:∀r:dh,r.length=ka.len->cx z.2.2 (z.1.getD ma 0) r=cG ka r/\cx z.2.2 (z.2.1.getD mb 0) r=cG kb r:=fun r hr=>#[by rw[hok.fa ma yc,GN r hr],by rw[hok.fb mb yb,GO r `mt]]
    have hap:=Ov Bg (by rw[w1,fY]) (by
     obtain⟨i1,i2⟩:=tr _ (w1.trans fY);rw[<-i1,<-i2];exact w3) fun s hs hd=>w4 s (by rw[hs,fY]) (by
     obtain⟨i1,i2⟩:=tr s hs;rw[i1,i2];exact hd)
    refine#[_,rfl,_,rfl,_,rfl,ra,C,dx,_,_,rfl,x1,KC.cl,KC.f4,rfl,fG y1 `mU' #[_,rfl,_,rfl,rb,C,Bm,_,_,rfl,Jl,KC.cl,KC.f4,rfl,fG y2 `mV' #[q0,as.reverse,M,_,_,z.2.2,rfl,eq',hPr,hok.gr,hM,by have:=yf.len;omega,hok.ta ma yc,hok.tb mb yb,lH,fun Hr p sr hp Ng=>qs _ hap Hr p (W9.trans sr) (W9.free hp) Ng]]]
end
abbrev qI:=List (ak×List `ap')
def eQ (TB:qI) (H:Hp):Prop:=∀p∈TB,cw H p.1 p.2
def lP (TB:qI) (H H':Hp):Prop:=∀b o,H b=some o->b∉TB.map (·.1)->H' b=some o
def lP.trans {TB:qI} {H H1 H2:Hp} (a:lP TB H H1) (b:lP TB H1 H2):lP TB H H2:=fun c o e h=>b c o (a c o e h) h
def lP.of {TB:qI} {H H':Hp} (s:aM H H'):lP TB H H':=fun b o e _=>s b o e
def eQ.same {TB:qI} {H H':Hp} (t:eQ TB H) (s:aM H H'):eQ TB H':=fun p hp=>cw.same (t p hp) s
def lP.get {TB:qI} {H H':Hp} (k:lP TB H H') (t:eQ TB H) {b:ak} {o:HO} (e:H b=some o) (hn:∀ps,o≠ .tbl ps):H' b=some o:=k b o e fun hm=>by
 obtain⟨p,hp,rfl⟩:=aV.mp hm;obtain⟨ps,z,_⟩:=t p hp;rw[e] at z;exact hn ps (aP z)
def lP.free {TB:qI} {H H':Hp} (k:lP TB H H') (t':eQ TB H') {b:ak} (h:H' b=Option.none):H b=Option.none:=by
 cases e:H b with
 |none=>rfl
 |some o=>
  exfalso;by_cases hm:b∈TB.map (·.1)
  ·obtain⟨p,hp,rfl⟩:=aV.mp hm;obtain⟨ps,z,_⟩:=t' p hp;rw[z] at h;cases h
  ·rw[k b o e hm] at h;cases h
def Al {TB:qI} {H H':Hp} {T:ak} {d:List `ap'} (nd:(TB.map (·.1)).Nodup) (hT:(T,d)∈TB) (t:eQ TB H) (k:cn T H H') (t':cw H' T d):eQ TB H'/\lP TB H H':=by
 refine#[fun p hp=>?_,fun b o e hb=>k b o e fun z=>hb (by rw[z];exact aV.mpr #[_,hT,rfl])];by_cases e:p.1=T
 ·have:p=(T,d):=by
   obtain⟨i,hi,ei⟩:=cg.mp hp;obtain⟨j,hj,ej⟩:=cg.mp hT;have:i=j:=by
    show 98
   subst this;rw[<-ei,<-ej]
  rw[this];exact t'
 ·exact cw.but (t p hp) (t _ hT) k e
def Aw {TB:qI} {H H':Hp} {T1 T2:ak} {d1 d2:List `ap'} (nd:(TB.map (·.1)).Nodup) (h1:(T1,d1)∈TB) (h2:(T2,d2)∈TB) (t:eQ TB H) (k:Uh T1 T2 H H') (t1:cw H' T1 d1) (t2:cw H' T2 d2):eQ TB H'/\lP TB H H':=by
 have uniq:∀{p q:ak×List (Pos×Str)},p∈TB->q∈TB->p.1=q.1->p=q:=fun{p q} hp hq e=>by
  obtain⟨i,hi,ei⟩:=cg.mp hp;obtain⟨j,hj,ej⟩:=cg.mp hq;have:i=j:=by
   show 98
  subst this;rw[<-ei,<-ej]
 refine#[fun p hp=>?_,fun b o e hb=>k b o e (fun z=>hb (by rw[z];exact aV.mpr #[_,h1,rfl])) fun z=>hb (by rw[z];exact aV.mpr #[_,h2,rfl])];by_cases e1:p.1=T1
 ·rw[uniq hp h1 e1];exact t1
 ·by_cases e2:p.1=T2
  ·rw[uniq hp h2 e2];exact t2
  ·obtain⟨ps,z1,z2,z3⟩:=t p hp;refine#[ps,k _ _ z1 e1 e2,z2,fun q hq cv e=>?_];obtain⟨c,y1,oc,uc,vs,tt,y2,y3⟩:=z3 q hq cv e;obtain⟨ps1,w1,_⟩:=t _ h1;obtain⟨ps2,w2,_⟩:=t _ h2;exact#[c,y1,oc,uc,vs,tt,k _ _ y2 (eD y2 w1 `XL) (eD y2 w2 `XL),y3]
def sY (C:ak) (TB:qI) (kof:List V->Hp->aT->Prop):Sp:=fun vs H Q _=>∃kd,kof vs H kd/\eQ TB H/\(kd.may=false->Q .non H)/\
 (kd.may=true->∀(H':Hp) (r:ak),lP TB H H'->eQ TB H'->H r=Option.none->KD C H' r kd->Q `bd' H')
def md {C:ak} {TB:qI} {T:ak} {d:List `ap'} {H:Hp} {Q:VK} {kd:aT} (nd:(TB.map (·.1)).Nodup) (hT:(T,d)∈TB) (t:eQ TB H) (hm:kd.may=true) (hs:kd.size=1) (hl:kd.len<=20) (hL:kd.letters<=20)
 (q:∀(H':Hp) (r:ak),lP TB H H'->eQ TB H'->H r=Option.none->KD C H' r kd->Q `bd' H'):ut (eO C) T d H Q kd.len kd.letters kd:=fun H' r G m k t' hr hK hG=>by
 obtain⟨a,b⟩:=Al nd hT t k t';rw[show(1:Nat)=kd.size from hs.symm] at hK;exact q H' r b a hr #[#[Rs hm hs,hl,hL,by omega],G,m,hK,hG]
def v6 {m a b:Nat}:Wqarao.upTo m [a,b]=true↔a<=m/\b<=m:=by
 unfold Wqarao.upTo;simp
def Z4 {m a b c:Nat}:Wqarao.upTo m [a,b,c]=true↔a<=m/\b<=m/\c<=m:=by
 unfold Wqarao.upTo;simp
section
variable {fB fA:ak} {fdB fdA:aH} {C:ak} {TB:qI}
abbrev k2 (mk:Nat->Nat->aT):List V->Hp->aT->Prop:=fun vs _ kd=>∃n k,vs=`jE'/\kd=mk n k
def Qv {f c T:ak} {fd:aH} (nd:(TB.map (·.1)).Nodup) (hT:(T,t0)∈TB) (F:bT P w K mg base dj 6 f fd `db' (KJ (eO C) T)):bT P w K mg base dj 7 f fd `db' (sY C TB (k2 .words)):=
 bT.mono (ge F fun vs H Q E ⟨kd,⟨n,k,e,hk⟩,t,qn,qs⟩=>⟨n,k,e,t _ hT,fun h=>qn `bJ',fun h1 h2=>by
  subst hk;exact md (kd:=.words n k) nd hT t `do' rfl h1 h2 (qs `do')⟩) `KK
def IZ {f c T:ak} {fd:aH} (nd:(TB.map (·.1)).Nodup) (hT:(T,ph)∈TB) (F:bT P w K mg base dj 6 f fd `db' (Cy (eO C) T)):bT P w K mg base dj 7 f fd `db' (sY C TB (k2 .choices)):=
 bT.mono (ge F fun vs H Q E ⟨kd,⟨n,k,e,hk⟩,t,qn,qs⟩=>⟨n,k,e,t _ hT,fun h=>qn `bJ',fun h1 h2=>by
  subst hk;exact md (kd:=.choices n k) nd hT t `do' rfl h2 h1 (qs `do')⟩) `KK
def RQ {f c T:ak} {fd:aH} (nd:(TB.map (·.1)).Nodup) (hT:(T,xj)∈TB) (F:bT P w K mg base dj 6 f fd `db' (PD (eO C) T)):bT P w K mg base dj 7 f fd `db' (sY C TB (k2 .bags)):=
 bT.mono (ge F fun vs H Q E ⟨kd,⟨n,k,e,hk⟩,t,qn,qs⟩=>⟨n,k,e,t _ hT,fun h=>qn `bJ',fun h1 h2=>by
  subst hk;exact md (kd:=.bags n k) nd hT t `do' rfl h2 h1 (qs `do')⟩) `KK
def L9 {f c T:ak} {fd:aH} (nd:(TB.map (·.1)).Nodup) (hT:(T,pK)∈TB) (F:bT P w K mg base dj 6 f fd `db' (FY (eO C) T)):bT P w K mg base dj 7 f fd `db' (sY C TB (k2 .groups)):=
 bT.mono (ge F fun vs H Q E ⟨kd,⟨n,k,e,hk⟩,t,qn,qs⟩=>⟨n,k,e,t _ hT,fun h=>qn (by subst hk;exact c7.mpr fun z=>by have:n<=12/\k<=12:=v6.mp z;omega),fun h1 h2=>by
  subst hk;exact md (kd:=.groups n k) nd hT t `do' rfl `b7' (by show k<=20;omega) (qs `do')⟩) `KK
abbrev k1 (mk:Nat->aT):List V->Hp->aT->Prop:=fun vs _ kd=>∃n,vs=[nV n]/\kd=mk n
def xV {f T:ak} {fd:aH} (nd:(TB.map (·.1)).Nodup) (hT:(T,jO)∈TB) (F:bT P w K mg base dj 6 f fd ["n"] (tE (eO C) T)):bT P w K mg base dj 7 f fd ["n"] (sY C TB (k1 .derangements)):=
 bT.mono (ge F fun vs H Q E ⟨kd,⟨n,e,hk⟩,t,qn,qs⟩=>⟨n,e,t _ hT,fun h=>qn (by subst hk;exact bS `mt),fun h1=>by
  subst hk;exact md (kd:=.derangements n) nd hT t (bp h1) rfl `b7' `b7' (qs (bp h1))⟩) `KK
def G3 {f T:ak} {fd:aH} (nd:(TB.map (·.1)).Nodup) (hT:(T,pd)∈TB) (F:bT P w K mg base dj 6 f fd ["n"] (Cr (eO C) T)):bT P w K mg base dj 7 f fd ["n"] (sY C TB (k1 .zigzags)):=
 bT.mono (ge F fun vs H Q E ⟨kd,⟨n,e,hk⟩,t,qn,qs⟩=>⟨n,e,t _ hT,fun h=>qn (by subst hk;exact bS `mt),fun h1=>by
  subst hk;exact md (kd:=.zigzags n) nd hT t (bp h1) rfl `b7' `b7' (qs (bp h1))⟩) `KK
def AF {f T:ak} {fd:aH} (nd:(TB.map (·.1)).Nodup) (hT:(T,iS)∈TB) (F:bT P w K mg base dj 7 f fd ["n"] (uz (eO C) T)):bT P w K mg base dj 7 f fd ["n"] (sY C TB (k1 .involutions)):=
 ge F fun vs H Q E ⟨kd,⟨n,e,hk⟩,t,qn,qs⟩=>⟨n,e,t _ hT,fun h=>qn (by subst hk;exact bS `mt),fun h1=>by
  subst hk;exact md (kd:=.involutions n) nd hT t (bp h1) rfl `b7' `b7' (qs (bp h1))⟩
abbrev k3 (mk:Nat->Nat->Nat->aT):List V->Hp->aT->Prop:=fun vs _ kd=>∃a b c,vs=[nV a,nV b,nV c]/\kd=mk a b c
def NO {f T:ak} {fd:aH} (nd:(TB.map (·.1)).Nodup) (hT:(T,rV)∈TB) (F:bT P w K mg base dj 6 f fd `eZ' (JS (eO C) T)):bT P w K mg base dj 7 f fd `eZ' (sY C TB (k3 .parts)):=by
 have qM:∀a b c,(Wqarao.Kind.parts a b c).may=true↔a<=60/\b<=20/\c<=19:=fun a b c=>by
  show(decide (a<=60)&&(decide (b<=20)&&decide (c<=19)))=true↔_;simp
 refine bT.mono (ge F fun vs H Q E ⟨kd,⟨a,b,c,e,hk⟩,t,qn,qs⟩=>#[a,b,c,e,t _ hT,fun h=>qn (by subst hk;exact c7.mpr fun z=>by have:=(qM a b c).mp z;omega),fun h1 h2 h3=>?_]) `KK;subst hk;have hy:=(qM a b c).mpr `ju';exact md nd hT t hy rfl h2 (by show c+1<=20;omega) (qs hy)
def Qt {f T:ak} {fd:aH} (nd:(TB.map (·.1)).Nodup) (hT:(T,rP)∈TB) (F:bT P w K mg base dj 6 f fd `fT' (J2 (eO C) T)):bT P w K mg base dj 7 f fd `fT' (sY C TB (k3 .paths)):=by
 refine bT.mono (ge F fun vs H Q E ⟨kd,⟨a,b,c,e,hk⟩,t,qn,qs⟩=>#[a,b,c,e,t _ hT,fun h=>qn (by subst hk;exact c7.mpr fun z=>by have:a<=20/\b<=20/\c<=20:=Z4.mp z;omega),fun h1 h2 h3=>?_]) `KK;subst hk;have hy:=Z4.mpr `ju';exact md (kd:=.paths a b c) nd hT t hy rfl h1 (by show 2<=20;decide) (qs hy)
def LY {f T:ak} {fd:aH} (nd:(TB.map (·.1)).Nodup) (hT:(T,pX)∈TB) (F:bT P w K mg base dj 6 f fd `c9' (E1 (eO C) T)):bT P w K mg base dj 7 f fd `c9' (sY C TB fun vs _ kd=>∃a b c d,vs=[nV a,nV b,nV c,nV d]/\kd= .shares a b c d):=by
 have qM:∀a b c d,(Wqarao.Kind.shares a b c d).may=true↔a<=200/\b<=20/\c<=19/\d<=19:=fun a b c d=>by
  show(decide (a<=200)&&(decide (b<=20)&&Wqarao.upTo 19 [c,d]))=true↔_;rw[aX,aX,v6];simp
 refine bT.mono (ge F fun vs H Q E ⟨kd,⟨a,b,c,d,e,hk⟩,t,qn,qs⟩=>#[a,b,c,d,e,t _ hT,fun h=>qn (by subst hk;exact c7.mpr fun z=>by have:=(qM a b c d).mp z;omega),fun h1 h2 h3 h4=>?_]) `KK;subst hk;have hy:=(qM a b c d).mpr #[h1,h2,h3,h4];exact md nd hT t hy rfl h2 (by show d+1<=20;omega) (qs hy)
abbrev kL (mk:List Nat->aT):List V->Hp->aT->Prop:=fun vs H kd=>∃a l,vs=`eH'/\H a=some (.lst `bR')/\kd=mk l
def LF {f T:ak} {fd:aH} (nd:(TB.map (·.1)).Nodup) (hT:(T,rp)∈TB) (F:bT P w K mg base dj 6 f fd `nE' (EU (eO C) T)):bT P w K mg base dj 7 f fd `nE' (sY C TB (kL .orders)):=by
 have qM:∀l,(Wqarao.Kind.orders l).may=true↔l.length<=8/\Wqarao.sum l<=10:=fun l=>by
  show(decide (l.length<=8)&&decide (Wqarao.sum l<=10))=true↔_;simp
 refine bT.mono (ge F fun vs H Q E ⟨kd,⟨a,l,e,ha,hk⟩,t,qn,qs⟩=>#[a,l,e,ha,t _ hT,fun h=>qn (by subst hk;exact c7.mpr fun z=>by have:=(qM l).mp z;omega),fun h1 h2=>?_]) `KK;subst hk;have hy:=(qM l).mpr `lC';exact md nd hT t hy rfl (by show Wqarao.sum l<=20;omega) `b3' (qs hy)
def IW {l:List Nat} {b:Nat}:(l.all fun x=>decide (x<b))=true↔∀m∈l,m<b:=by
 rw[eY];exact#[fun h m hm=>af (h m hm),fun h m hm=>bp (h m hm)]
end
abbrev tp:du:=my 76
section
variable {C:ak} {TB:qI}
def Bz {f T:ak} {fd:aH} (nd:(TB.map (·.1)).Nodup) (hT:(T,lq)∈TB) (F:bT P w K mg base dj 6 f fd `gC' (vM (eO C) T)):bT P w K mg base dj 7 f fd `gC' (sY C TB `lc'):=by
 have qM:∀l:List Nat,(Wqarao.Kind.extensions l l.length).may=true↔l.length<=7/\∀m∈l,m<2^l.length:=fun l=>by
  show 201
 refine bT.mono (ge F fun vs H Q E ⟨kd,⟨a,l,e,ha,hk⟩,t,qn,qs⟩=>⟨a,l,e,ha,t _ hT,fun h=>qn (by
  show 103
  ·omega
  ·have:=z2 m hm;omega),fun h1 h2=>?_⟩) `KK
 show 141
def Eg {f T:ak} {fd:aH} (nd:(TB.map (·.1)).Nodup) (hT:(T,iS)∈TB) (F:bT P w K mg base dj 7 f fd `gC' (xy (eO C) T)):bT P w K mg base dj 7 f fd `gC' (sY C TB `lB'):=by
 have qM:∀l:List Nat,(Wqarao.Kind.matchings l l.length).may=true↔l.length<=7/\∀m∈l,m<2^l.length:=fun l=>by
  show 201
 refine ge F fun vs H Q E ⟨kd,⟨a,l,e,ha,hk⟩,t,qn,qs⟩=>⟨a,l,e,ha,t _ hT,fun h=>qn (by
  show 103
  ·omega
  ·have:=z2 m hm;omega),fun h1 h2=>?_⟩
 show 141
def PF {f T:ak} {fd:aH} (nd:(TB.map (·.1)).Nodup) (hT:(T,rG)∈TB) (F:bT P w K mg base dj 6 f fd `dl' (JT (eO C) T)):bT P w K mg base dj 7 f fd `dl' (sY C TB fun vs H kd=>∃n s e a l,vs=[nV n,nV s,nV e,.ref a]/\H a=some (.lst `bR')/\kd= .walks l l.length n s e):=by
 have qM:∀(l:List Nat) (n s e:Nat),(Wqarao.Kind.walks l l.length n s e).may=true↔(n<=16/\1<=l.length/\l.length<=8/\s<=l.length/\e<=l.length)/\∀m∈l,m<2^l.length:=fun l n s e=>by
  show(decide (1<=l.length)&&(decide (l.length<=8)&&(decide (n<=16)&&(Wqarao.upTo l.length [s,e]&&`cE'))))=true↔_;rw[aX,aX,aX,aX,aX,IW,v6,bK,bK,bK]
  constructor
  ·rintro⟨a,b,c,⟨d,f⟩,_,g⟩;exact#[#[c,a,b,d,f],g]
  ·rintro⟨⟨c,a,b,d,f⟩,g⟩;exact#[a,b,c,#[d,f],nj _,g]
 refine bT.mono (ge F fun vs H Q E ⟨kd,⟨n,s,e,a,l,ev,ha,hk⟩,t,qn,qs⟩=>⟨n,s,e,a,l,ev,ha,t _ hT,fun h=>qn (by
  subst hk;refine c7.mpr fun z=>?_;obtain⟨z1,z2⟩:=(qM l n s e).mp z;rcases h with h|h|h|h|h| ⟨m,hm,h⟩
  ·omega
  ·omega
  ·omega
  ·omega
  ·omega
  ·have:=z2 m hm;omega),fun h1 h2 h3 h4 h5 h6=>?_⟩) `KK
 subst hk;have hy:=(qM l n s e).mpr #[#[h1,h2,h3,h4,h5],h6];exact md nd hT t hy rfl (by show n+1<=20;omega) `b3' (qs hy)
def DV {f T:ak} {fd:aH} (nd:(TB.map (·.1)).Nodup) (hT:(T,kS)∈TB) (F:bT P w K mg base dj 6 f fd `bn' (xL (eO C) T)):bT P w K mg base dj 7 f fd `bn' (sY C TB fun vs H kd=>∃st k ac n a l,vs=`gm'/\H a=some (.lst `bR')/\kd= .automaton l st k ac n):=by
 have qM:∀(l:List Nat) (st k ac n:Nat),(Wqarao.Kind.automaton l st k ac n).may=true↔(1<=st/\st<=8/\k<=6/\n<=16)/\ac<2^st/\l.length=st*k/\∀m∈l,m<=255:=fun l st k ac n=>by
  show(decide (1<=st)&&(decide (st<=8)&&(decide (k<=6)&&(decide (ac<2^st)&&(decide (n<=16)&&(l.length==st*k&&Wqarao.upTo 255 l))))))=true↔_;unfold Wqarao.upTo;rw[aX,aX,aX,aX,aX,aX,eY,bK,bK,bK,bK,bK,gv]
  constructor
  ·rintro⟨a,b,c,d,f,g,h⟩;exact#[#[a,b,c,f],d,g,fun m hm=>af (h m hm)]
  ·rintro⟨⟨a,b,c,f⟩,d,g,h⟩;exact#[a,b,c,d,f,g,fun m hm=>bp (h m hm)]
 refine bT.mono (ge F fun vs H Q E ⟨kd,⟨st,k,ac,n,a,l,ev,ha,hk⟩,t,qn,qs⟩=>⟨st,k,ac,n,a,l,ev,ha,t _ hT,fun h=>qn (by
  subst hk;refine c7.mpr fun z=>?_;obtain⟨z1,z2,z3,z4⟩:=(qM l st k ac n).mp z;rcases h with h|h|h|h|h|h| ⟨m,hm,h⟩
  ·omega
  ·omega
  ·omega
  ·omega
  ·omega
  ·exact h z3
  ·have:=z4 m hm;omega),fun h1 h2 h3 h4 h5 h6 h7=>?_⟩) `KK
 subst hk;have hy:=(qM l st k ac n).mpr #[#[h1,h2,h3,h4],h5,h6,h7];exact md nd hT t hy rfl `b7' (by show k<=20;omega) (qs hy)
structure GH (P:bN) (w:cV) (K:ai) (mg:Str->Option aA) (C:ak) (TB:qI) (x:Str) (ps:List Str) (kof:List V->Hp->aT->Prop) (f:ak) (fd:aH):Prop where
 g:mg x=some `bA'
 k:keepIn K `bA'=true
 b:fV K fd ps []
 ok:∀base,bT P w K mg base dj 7 f fd ps (sY C TB kof)
structure Mks (P:bN) (w:cV) (K:ai) (mg:Str->Option aA) (C:ak) (TB:qI):Prop where
 m1:∃f fd,GH P w K mg C TB "words" `db' (k2 .words) f fd
 m2:∃f fd,GH P w K mg C TB "choices" `db' (k2 .choices) f fd
 m3:∃f fd,GH P w K mg C TB "bags" `db' (k2 .bags) f fd
 m4:∃f fd,GH P w K mg C TB "orders" `nE' (kL .orders) f fd
 m5:∃f fd,GH P w K mg C TB "derangements" ["n"] (k1 .derangements) f fd
 m6:∃f fd,GH P w K mg C TB "involutions" ["n"] (k1 .involutions) f fd
 m7:∃f fd,GH P w K mg C TB "zigzags" ["n"] (k1 .zigzags) f fd
 m8:∃f fd,GH P w K mg C TB "parts" `eZ' (k3 .parts) f fd
 m9:∃f fd,GH P w K mg C TB "shares" `c9' (fun vs _ kd=>∃a b c d,vs=[nV a,nV b,nV c,nV d]/\kd= .shares a b c d) f fd
 m10:∃f fd,GH P w K mg C TB "groups" `db' (k2 .groups) f fd
 m11:∃f fd,GH P w K mg C TB "paths" `fT' (k3 .paths) f fd
 m12:∃f fd,GH P w K mg C TB "automaton" `bn' (fun vs H kd=>∃st k ac n a l,vs=`gm'/\H a=some (.lst `bR')/\kd= .automaton l st k ac n) f fd
 m13:∃f fd,GH P w K mg C TB "extensions" `gC' `lc' f fd
 m14:∃f fd,GH P w K mg C TB "walks" `dl' (fun vs H kd=>∃n s e a l,vs=[nV n,nV s,nV e,.ref a]/\H a=some (.lst `bR')/\kd= .walks l l.length n s e) f fd
 m15:∃f fd,GH P w K mg C TB "matchings" `gC' `lB' f fd
def j8:Nat->List Nat->List Nat->Option aT
 |1,[n,k],_=>some `na'
 |2,[n,k],_=>some `kL'
 |3,[n,k],_=>some (.bags n k)
 |4,[],l=>some (.orders l)
 |5,[n],_=>some `ir'
 |6,[n],_=>some `i1'
 |7,[n],_=>some `nb'
 |8,[a,b,c],_=>some (.parts a b c)
 |9,[a,b,c,d],_=>some (.shares a b c d)
 |10,[n,k],_=>some `lZ'
 |11,[a,b,c],_=>some (.paths a b c)
 |12,[s,k,a,n],l=>some (.automaton l s k a n)
 |13,[],l=>some (.extensions l l.length)
 |14,[n,a,b],l=>some (.walks l l.length n a b)
 |15,[],l=>some (.matchings l l.length)
 |_,_,_=>none
end
def aaf {gs ls:List Nat} {kd:aT} (h:j8 1 gs ls=some kd):∃n0 n1,gs=[n0,n1]/\kd= .words n0 n1:=
 match gs,h with
 | [n0,n1],h=>`fi'
 | [],h=>nomatch h
 | [_],h=>nomatch h
 |_::_::_::_,h=>nomatch h
def ZK {gs ls:List Nat} {kd:aT} (h:j8 2 gs ls=some kd):∃n0 n1,gs=[n0,n1]/\kd= .choices n0 n1:=
 match gs,h with
 | [n0,n1],h=>`fi'
 | [],h=>nomatch h
 | [_],h=>nomatch h
 |_::_::_::_,h=>nomatch h
def aag {gs ls:List Nat} {kd:aT} (h:j8 3 gs ls=some kd):∃n0 n1,gs=[n0,n1]/\kd= .bags n0 n1:=
 match gs,h with
 | [n0,n1],h=>`fi'
 | [],h=>nomatch h
 | [_],h=>nomatch h
 |_::_::_::_,h=>nomatch h
def aaw {gs ls:List Nat} {kd:aT} (h:j8 4 gs ls=some kd):gs=[]/\kd= .orders ls:=
 match gs,h with
 | [],h=>`lD'
 |_::_,h=>nomatch h
def aan {gs ls:List Nat} {kd:aT} (h:j8 5 gs ls=some kd):∃n0,gs=[n0]/\kd= .derangements n0:=
 match gs,h with
 | [n0],h=>`jH'
 | [],h=>nomatch h
 |_::_::_,h=>nomatch h
def aas {gs ls:List Nat} {kd:aT} (h:j8 6 gs ls=some kd):∃n0,gs=[n0]/\kd= .involutions n0:=
 match gs,h with
 | [n0],h=>`jH'
 | [],h=>nomatch h
 |_::_::_,h=>nomatch h
def ZQ {gs ls:List Nat} {kd:aT} (h:j8 7 gs ls=some kd):∃n0,gs=[n0]/\kd= .zigzags n0:=
 match gs,h with
 | [n0],h=>`jH'
 | [],h=>nomatch h
 |_::_::_,h=>nomatch h
def aaz {gs ls:List Nat} {kd:aT} (h:j8 8 gs ls=some kd):∃n0 n1 n2,gs=[n0,n1,n2]/\kd= .parts n0 n1 n2:=
 match gs,h with
 | [n0,n1,n2],h=>`gY'
 | [],h=>nomatch h
 | [_],h=>nomatch h
 | [_,_],h=>nomatch h
 |_::_::_::_::_,h=>nomatch h
def aac {gs ls:List Nat} {kd:aT} (h:j8 9 gs ls=some kd):∃n0 n1 n2 n3,gs=[n0,n1,n2,n3]/\kd= .shares n0 n1 n2 n3:=
 match gs,h with
 | [n0,n1,n2,n3],h=>`mo'
 | [],h=>nomatch h
 | [_],h=>nomatch h
 | [_,_],h=>nomatch h
 | [_,_,_],h=>nomatch h
 |_::_::_::_::_::_,h=>nomatch h
def Vb {gs ls:List Nat} {kd:aT} (h:j8 10 gs ls=some kd):∃n0 n1,gs=[n0,n1]/\kd= .groups n0 n1:=
 match gs,h with
 | [n0,n1],h=>`fi'
 | [],h=>nomatch h
 | [_],h=>nomatch h
 |_::_::_::_,h=>nomatch h
def Vz {gs ls:List Nat} {kd:aT} (h:j8 11 gs ls=some kd):∃n0 n1 n2,gs=[n0,n1,n2]/\kd= .paths n0 n1 n2:=
 match gs,h with
 | [n0,n1,n2],h=>`gY'
 | [],h=>nomatch h
 | [_],h=>nomatch h
 | [_,_],h=>nomatch h
 |_::_::_::_::_,h=>nomatch h
def Vd {gs ls:List Nat} {kd:aT} (h:j8 12 gs ls=some kd):∃n0 n1 n2 n3,gs=[n0,n1,n2,n3]/\kd= .automaton ls n0 n1 n2 n3:=
 match gs,h with
 | [n0,n1,n2,n3],h=>`mo'
 | [],h=>nomatch h
 | [_],h=>nomatch h
 | [_,_],h=>nomatch h
 | [_,_,_],h=>nomatch h
 |_::_::_::_::_::_,h=>nomatch h
def VJ {gs ls:List Nat} {kd:aT} (h:j8 13 gs ls=some kd):gs=[]/\kd= .extensions ls ls.length:=
 match gs,h with
 | [],h=>`lD'
 |_::_,h=>nomatch h
def V1 {gs ls:List Nat} {kd:aT} (h:j8 14 gs ls=some kd):∃n0 n1 n2,gs=[n0,n1,n2]/\kd= .walks ls ls.length n0 n1 n2:=
 match gs,h with
 | [n0,n1,n2],h=>`gY'
 | [],h=>nomatch h
 | [_],h=>nomatch h
 | [_,_],h=>nomatch h
 |_::_::_::_::_,h=>nomatch h
def V8 {gs ls:List Nat} {kd:aT} (h:j8 15 gs ls=some kd):gs=[]/\kd= .matchings ls ls.length:=
 match gs,h with
 | [],h=>`lD'
 |_::_,h=>nomatch h
section
variable {C:ak} {TB:qI}
def aax (C:ak) (TB:qI):Sp:=fun vs H Q _=>∃(ag al:ak) (c:Nat) (gs ls:List Nat) (kd:aT),vs=[nV c,.ref ag,.ref al]/\H ag=some `eo'/\H al=some `fL'/\j8 c gs ls=some kd/\1<=c/\c<=15/\eQ TB H/\(kd.may=false->Q .non H)/\
 (kd.may=true->∀(H':Hp) (r:ak),lP TB H H'->eQ TB H'->H r=Option.none->KD C H' r kd->Q `bd' H')
abbrev FB:List Str:=`nQ'
def aah:bY FB FB (aw tp):=`dl
def VI {f:ak} {fd:aH} (F:nv K "one_of_fifteen" "one_of_fifteen" tp f fd) (M:Mks P w K mg C TB):bT P w K mg base dj 8 f fd FB (aax C TB):=by
 refine F.ok aah `ST `LE
 ·obtain⟨ag,al,c,gs,ls,kd,rfl,_⟩:=h;rfl
 ·obtain⟨ag,al,c,gs,ls,kd,rfl,hg,hl,EC,KY,Ek,ht,qn,qs⟩:=h;obtain⟨f1,d1,M1⟩:=M.m1;obtain⟨f2,d2,M2⟩:=M.m2;obtain⟨f3,d3,M3⟩:=M.m3;obtain⟨f4,d4,M4⟩:=M.m4;obtain⟨f5,d5,M5⟩:=M.m5;obtain⟨f6,d6,M6⟩:=M.m6;obtain⟨f7,d7,M7⟩:=M.m7;obtain⟨f8,d8,M8⟩:=M.m8;obtain⟨f9,d9,M9⟩:=M.m9;obtain⟨f10,d10,M10⟩:=M.m10;obtain⟨f11,d11,M11⟩:=M.m11;obtain⟨f12,d12,M12⟩:=M.m12;obtain⟨f13,d13,M13⟩:=M.m13;obtain⟨f14,d14,M14⟩:=M.m14;obtain⟨f15,d15,M15⟩:=M.m15;refine⟨_,am (cC `ah' (aG (aY (`n0' (M1.ok base) hr `IO M1.g M1.k M1.b .nil b9 (aa (bz bi (pv 1) aC `Ch) (aa (bz bi (pv 1) aC `Ch) aB))))) br)
   (am (cC `ah' (aG (aY (`n0' (M2.ok base) hr `IO M2.g M2.k M2.b .nil b9 (aa (bz bi (pv 1) aC `Ch) (aa (bz bi (pv 1) aC `Ch) aB))))) br)
   (am (cC `ah' (aG (aY (`n0' (M3.ok base) hr `IO M3.g M3.k M3.b .nil b9 (aa (bz bi (pv 1) aC `Ch) (aa (bz bi (pv 1) aC `Ch) aB))))) br)
   (am (cC `ah' (aG (aY (`n0' (M4.ok base) hr `IO M4.g M4.k M4.b .nil b9 `aC'))) br)
   (am (cC `ah' (aG (aY (`n0' (M5.ok base) hr `IO M5.g M5.k M5.b .nil b9 (aa (bz bi (pv 1) aC `Ch) aB)))) br)
   (am (cC `ah' (aG (aY (`n0' (M6.ok base) hr `IO M6.g M6.k M6.b .nil b9 (aa (bz bi (pv 1) aC `Ch) aB)))) br)
   (am (cC `ah' (aG (aY (`n0' (M7.ok base) hr `IO M7.g M7.k M7.b .nil b9 (aa (bz bi (pv 1) aC `Ch) aB)))) br)
   (am (cC `ah' (aG (aY (`n0' (M8.ok base) hr `IO M8.g M8.k M8.b .nil b9 (aa (bz bi (pv 1) aC `Ch) (aa (bz bi (pv 1) aC `Ch) (aa (bz bi (pv 1) aC `Ch) aB)))))) br)
   (am (cC `ah' (aG (aY (`n0' (M9.ok base) hr `IO M9.g M9.k M9.b .nil b9 (aa (bz bi (pv 1) aC `Ch) (aa (bz bi (pv 1) aC `Ch) (aa (bz bi (pv 1) aC `Ch) (aa (bz bi (pv 1) aC `Ch) aB))))))) br)
   (am (cC `ah' (aG (aY (`n0' (M10.ok base) hr `IO M10.g M10.k M10.b .nil b9 (aa (bz bi (pv 1) aC `Ch) (aa (bz bi (pv 1) aC `Ch) aB))))) br)
   (am (cC `ah' (aG (aY (`n0' (M11.ok base) hr `IO M11.g M11.k M11.b .nil b9 (aa (bz bi (pv 1) aC `Ch) (aa (bz bi (pv 1) aC `Ch) (aa (bz bi (pv 1) aC `Ch) aB)))))) br)
   (am (cC `ah' (aG (aY (`oe' (M12.ok base) hr `IO M12.g M12.k M12.b .nil b9 (aa (bz bi (pv 1) aC `Ch) (aa (bz bi (pv 1) aC `Ch) (aa (bz bi (pv 1) aC `Ch) (aa (bz bi (pv 1) aC `Ch) `aC'))))))) br)
   (am (cC `ah' (aG (aY (`oe' (M13.ok base) hr `IO M13.g M13.k M13.b .nil b9 `aC'))) br)
   (am (cC `ah' (aG (aY (`oe' (M14.ok base) hr `IO M14.g M14.k M14.b .nil b9 (aa (bz bi (pv 1) aC `Ch) (aa (bz bi (pv 1) aC `Ch) (aa (bz bi (pv 1) aC `Ch) `aC')))))) br)
   (aG (aY (`oe' (M15.ok base) hr `IO M15.g M15.k M15.b .nil b9 `aC')))))))))))))))),?_⟩
  refine#[_,rfl,c,1,rfl,rfl,_,rfl,az `A' fun e1=>?_]
  ·obtain rfl:c=1:=by have:=af e;omega
   obtain⟨n0,n1,rfl,rfl⟩:=aaf EC;exact `P'
  have x1:c≠1:=by have:=aj e1;omega
  refine#[_,rfl,c,2,rfl,rfl,_,rfl,az `A' fun e2=>?_]
  ·obtain rfl:c=2:=by have:=af e;omega
   obtain⟨n0,n1,rfl,rfl⟩:=ZK EC;exact `P'
  have x2:c≠2:=by have:=aj e2;omega
  refine#[_,rfl,c,3,rfl,rfl,_,rfl,az `A' fun e3=>?_]
  ·obtain rfl:c=3:=by have:=af e;omega
   obtain⟨n0,n1,rfl,rfl⟩:=aag EC;exact `P'
  have x3:c≠3:=by have:=aj e3;omega
  refine#[_,rfl,c,4,rfl,rfl,_,rfl,az `A' fun e4=>?_]
  ·obtain rfl:c=4:=by have:=af e;omega
   obtain⟨rfl,rfl⟩:=aaw EC;exact `en'
  have x4:c≠4:=by have:=aj e4;omega
  refine#[_,rfl,c,5,rfl,rfl,_,rfl,az `A' fun e5=>?_]
  ·obtain rfl:c=5:=by have:=af e;omega
   obtain⟨n0,rfl,rfl⟩:=aan EC;exact `bq'
  have x5:c≠5:=by have:=aj e5;omega
  refine#[_,rfl,c,6,rfl,rfl,_,rfl,az `A' fun e6=>?_]
  ·obtain rfl:c=6:=by have:=af e;omega
   obtain⟨n0,rfl,rfl⟩:=aas EC;exact `bq'
  have x6:c≠6:=by have:=aj e6;omega
  refine#[_,rfl,c,7,rfl,rfl,_,rfl,az `A' fun e7=>?_]
  ·obtain rfl:c=7:=by have:=af e;omega
   obtain⟨n0,rfl,rfl⟩:=ZQ EC;exact `bq'
  have x7:c≠7:=by have:=aj e7;omega
  refine#[_,rfl,c,8,rfl,rfl,_,rfl,az `A' fun e8=>?_]
  ·obtain rfl:c=8:=by have:=af e;omega
   obtain⟨n0,n1,n2,rfl,rfl⟩:=aaz EC;exact `aX'
  have x8:c≠8:=by have:=aj e8;omega
  refine#[_,rfl,c,9,rfl,rfl,_,rfl,az `A' fun e9=>?_]
  ·obtain rfl:c=9:=by have:=af e;omega
   obtain⟨n0,n1,n2,n3,rfl,rfl⟩:=aac EC;exact#[_,rfl,ag,_,0,nV n0,rfl,rfl,SqL.of hg,bx (j:=0) rfl,_,rfl,ag,_,1,nV n1,rfl,rfl,SqL.of hg,bx (j:=1) rfl,_,rfl,ag,_,2,nV n2,rfl,rfl,SqL.of hg,bx (j:=2) rfl,_,rfl,ag,_,3,nV n3,rfl,rfl,SqL.of hg,bx (j:=3) rfl,_,#[n0,n1,n2,n3,rfl,rfl],ht,qn,qs]
  have x9:c≠9:=by have:=aj e9;omega
  refine#[_,rfl,c,10,rfl,rfl,_,rfl,az `A' fun e10=>?_]
  ·obtain rfl:c=10:=by have:=af e;omega
   obtain⟨n0,n1,rfl,rfl⟩:=Vb EC;exact `P'
  have x10:c≠10:=by have:=aj e10;omega
  refine#[_,rfl,c,11,rfl,rfl,_,rfl,az `A' fun e11=>?_]
  ·obtain rfl:c=11:=by have:=af e;omega
   obtain⟨n0,n1,n2,rfl,rfl⟩:=Vz EC;exact `aX'
  have x11:c≠11:=by have:=aj e11;omega
  refine#[_,rfl,c,12,rfl,rfl,_,rfl,az `A' fun e12=>?_]
  ·obtain rfl:c=12:=by have:=af e;omega
   obtain⟨n0,n1,n2,n3,rfl,rfl⟩:=Vd EC;exact#[_,rfl,ag,_,0,nV n0,rfl,rfl,SqL.of hg,bx (j:=0) rfl,_,rfl,ag,_,1,nV n1,rfl,rfl,SqL.of hg,bx (j:=1) rfl,_,rfl,ag,_,2,nV n2,rfl,rfl,SqL.of hg,bx (j:=2) rfl,_,rfl,ag,_,3,nV n3,rfl,rfl,SqL.of hg,bx (j:=3) rfl,_,rfl,_,#[n0,n1,n2,n3,al,ls,rfl,hl,rfl],ht,qn,qs]
  have x12:c≠12:=by have:=aj e12;omega
  refine#[_,rfl,c,13,rfl,rfl,_,rfl,az `A' fun e13=>?_]
  ·obtain rfl:c=13:=by have:=af e;omega
   obtain⟨rfl,rfl⟩:=VJ EC;exact `en'
  have x13:c≠13:=by have:=aj e13;omega
  refine#[_,rfl,c,14,rfl,rfl,_,rfl,az `A' fun e14=>?_]
  ·obtain rfl:c=14:=by have:=af e;omega
   obtain⟨n0,n1,n2,rfl,rfl⟩:=V1 EC;exact#[_,rfl,ag,_,0,nV n0,rfl,rfl,SqL.of hg,bx (j:=0) rfl,_,rfl,ag,_,1,nV n1,rfl,rfl,SqL.of hg,bx (j:=1) rfl,_,rfl,ag,_,2,nV n2,rfl,rfl,SqL.of hg,bx (j:=2) rfl,_,rfl,_,#[n0,n1,n2,al,ls,rfl,hl,rfl],ht,qn,qs]
  have x14:c≠14:=by have:=aj e14;omega
  obtain rfl:c=15:=by omega
  obtain⟨rfl,rfl⟩:=V8 EC;exact `en'
end
abbrev Ot:du:=my 77
def L4 {a b:aT} (ha:oG a) (hb:oG b) (hs:a.size+b.size<=3) (hl:a.len=b.len):oG `jw':=#[S0 ha.cv hb.cv hs hl,ha.len,by show min a.letters b.letters<=20;have:=ha.let_;omega,hs]
def FC {a b:aT} (ha:oG a) (hb:oG b) (hs:a.size+b.size<=3) (hl:a.len=b.len):oG `he':=#[LU ha.cv hb.cv hs hl,ha.len,by show max a.letters b.letters<=20;have:=ha.let_;have:=hb.let_;omega,hs]
def My {a b:aT} (ha:oG a) (hb:oG b) (hs:a.size+b.size<=3) (hl:a.len=b.len):oG `hM':=#[Sj ha.cv hb.cv hs hl,ha.len,ha.let_,hs]
def Mb {a b:aT} (ha:oG a) (hb:oG b) (hs:a.size+b.size<=3) (hl:a.len+b.len<=20):oG `ci':=#[SR ha.cv hb.cv hs,hl,by show max a.letters b.letters<=20;have:=ha.let_;have:=hb.let_;omega,hs]
def FX {a:aT} {p:List Nat} (ha:oG a):oG `e3':=#[Lv ha.cv,ha.len,ha.let_,ha.size]
def FN (C:ak) (TB:qI) (h:Join):Sp:=fun vs H Q _=>∃(ra rb:ak) (ka kb:aT),vs=`d1'/\KD C H ra ka/\KD C H rb kb/\h.may ka kb=true/\ka.size+kb.size<=3/\eQ TB H/\
 ∀(H':Hp) (r:ak),lP TB H H'->eQ TB H'->H r=Option.none->KD C H' r (h.of ka kb)->Q `bd' H'
def ZS (C:ak) (TB:qI):Sp:=fun vs H Q _=>∃(r a:ak) (kd:aT) (p:List Nat),vs=`dz'/\KD C H r kd/\H a=some `it'/\p.length<=kd.len/\eQ TB H/\
 ∀(H':Hp) (r':ak),lP TB H H'->eQ TB H'->H r'=Option.none->KD C H' r' (.begins kd p)->Q (.ref r') H'
section
variable {C:ak} {TB:qI}
def RO {f T1 T:ak} {fd:aH} (nd:(TB.map (·.1)).Nodup) (h1:(T1,xm)∈TB) (h2:(T,oz)∈TB) (lH:T≠T1) (F:bT P w K mg base dj 7 f fd `cg' (OH C T1 T)):bT P w K mg base dj 7 f fd `cg' (FN C TB .both):=
 ge F fun vs H Q E ⟨ra,rb,ka,kb,e,hA,hB,hm,hs,t,q⟩=>⟨ra,rb,ka,kb,e,hA,hB,jC hm,hs,t _ h1,t _ h2,lH,fun H' r G m k t1 t2 hr hK hG=>by
  obtain⟨a,b⟩:=Aw nd h1 h2 t k t1 t2;exact q H' r b a hr #[L4 hA.1 hB.1 hs (jC hm),G,m,hK,hG]⟩
def LV {f T1 T:ak} {fd:aH} (nd:(TB.map (·.1)).Nodup) (h1:(T1,qT)∈TB) (h2:(T,oz)∈TB) (lH:T≠T1) (F:bT P w K mg base dj 7 f fd `cg' (FP C T1 T)):bT P w K mg base dj 7 f fd `cg' (FN C TB .either):=
 ge F fun vs H Q E ⟨ra,rb,ka,kb,e,hA,hB,hm,hs,t,q⟩=>⟨ra,rb,ka,kb,e,hA,hB,jC hm,hs,t _ h1,t _ h2,lH,fun H' r G m k t1 t2 hr hK hG=>by
  obtain⟨a,b⟩:=Aw nd h1 h2 t k t1 t2;exact q H' r b a hr #[FC hA.1 hB.1 hs (jC hm),G,m,hK,hG]⟩
def RF {f T1 T:ak} {fd:aH} (nd:(TB.map (·.1)).Nodup) (h1:(T1,uJ)∈TB) (h2:(T,oz)∈TB) (lH:T≠T1) (F:bT P w K mg base dj 7 f fd `cg' (NN C T1 T)):bT P w K mg base dj 7 f fd `cg' (FN C TB .less):=
 ge F fun vs H Q E ⟨ra,rb,ka,kb,e,hA,hB,hm,hs,t,q⟩=>⟨ra,rb,ka,kb,e,hA,hB,jC hm,hs,t _ h1,t _ h2,lH,fun H' r G m k t1 t2 hr hK hG=>by
  obtain⟨a,b⟩:=Aw nd h1 h2 t k t1 t2;exact q H' r b a hr #[My hA.1 hB.1 hs (jC hm),G,m,hK,hG]⟩
def SV {f T:ak} {fd:aH} (nd:(TB.map (·.1)).Nodup) (h1:(T,wO)∈TB) (F:bT P w K mg base dj 6 f fd `cg' (OX C T)):bT P w K mg base dj 7 f fd `cg' (FN C TB .then_):=
 bT.mono (ge F fun vs H Q E ⟨ra,rb,ka,kb,e,hA,hB,hm,hs,t,q⟩=>⟨ra,rb,ka,kb,e,hA,hB,hs,af hm,t _ h1,fun H' r G m k t1 hr hK hG=>by
  obtain⟨a,b⟩:=Al nd h1 t k t1;exact q H' r b a hr #[Mb hA.1 hB.1 hs (af hm),G,m,hK,hG]⟩) `KK
def Mi {f T:ak} {fd:aH} (nd:(TB.map (·.1)).Nodup) (h1:(T,qV)∈TB) (F:bT P w K mg base dj 6 f fd `mW' (FD C T)):bT P w K mg base dj 7 f fd `mW' (ZS C TB):=
 bT.mono (ge F fun vs H Q E ⟨r,a,kd,p,e,hA,ha,hp,t,q⟩=>⟨r,a,kd,p,e,hA,ha,hp,t _ h1,fun H' r' G m k t1 hr hK hG=>by
  obtain⟨a,b⟩:=Al nd h1 t k t1;exact q H' r' b a hr #[FX hA.1,G,m,hK,hG]⟩) `KK
structure WG (P:bN) (w:cV) (K:ai) (mg:Str->Option aA) (x:Str) (ps:List Str) (sp:Sp) (f:ak) (fd:aH):Prop where
 g:mg x=some `bA'
 k:keepIn K `bA'=true
 b:fV K fd ps []
 ok:∀base,bT P w K mg base dj 7 f fd ps sp
structure Jns (P:bN) (w:cV) (K:ai) (mg:Str->Option aA) (C:ak) (TB:qI):Prop where
 kc:oQ K C
 m16:∃f fd,WG P w K mg "both" `cg' (FN C TB .both) f fd
 m17:∃f fd,WG P w K mg "either" `cg' (FN C TB .either) f fd
 m18:∃f fd,WG P w K mg "less" `cg' (FN C TB .less) f fd
 m19:∃f fd,WG P w K mg "then" `cg' (FN C TB .then_) f fd
 m20:∃f fd,WG P w K mg "begins" `mW' (ZS C TB) f fd
def nH (c:Nat):Join:=if c=16 then .both else if c=17 then .either else if c=18 then .less else .then_
def aao (C:ak) (TB:qI):Sp:=fun vs H Q _=>∃(c:Nat) (ra rb:ak) (ka kb:aT),vs=[nV c,.ref ra,.ref rb]/\16<=c/\c<=19/\KD C H ra ka/\KD C H rb kb/\eQ TB H/\((nH c).may ka kb=false\/3<ka.size+kb.size->Q .non H)/\
 ((nH c).may ka kb=true->ka.size+kb.size<=3->∀(H':Hp) (r:ak),lP TB H H'->eQ TB H'->H r=Option.none->KD C H' r ((nH c).of ka kb)->Q `bd' H')
abbrev E2:List Str:=["number","a","b"]
def aaa:bY E2 E2 (aw Ot):=`dl
def Vo {f:ak} {fd:aH} (F:nv K "one_of_two" "one_of_two" Ot f fd) (T:Txt5 K mg) (J:Jns P w K mg C TB):bT P w K mg base dj 8 f fd E2 (aao C TB):=by
 refine F.ok aaa `ST `LE
 ·obtain⟨c,ra,rb,ka,kb,rfl,_⟩:=h;rfl
 ·obtain⟨c,ra,rb,ka,kb,rfl,KY,Ek,hA,hB,ht,qn,qs⟩:=h;obtain⟨f16,d16,M16⟩:=J.m16;obtain⟨f17,d17,M17⟩:=J.m17;obtain⟨f18,d18,M18⟩:=J.m18;obtain⟨f19,d19,M19⟩:=J.m19;obtain⟨t3,h3⟩:=T.lsize;obtain⟨t20,h20⟩:=T.llong;obtain⟨_,Ga,ma,⟨dx,la,wa,oA,qB,h1,_⟩,_⟩:=id hA;obtain⟨_,Gb,mb,⟨Bm,UU,Wm,qL,xQ,xT,_⟩,_⟩:=id hB;have KC:=J.kc;refine⟨_,am (cC (bb (fq (cJ gx `U' `eO') (bQ (v:=.int 3) `IO h3 ⟨t3,rfl⟩))) `b1' br)
   (am (cC `ah' (aG (aY (Am (bb (JC (cJ gx `U' `eO') (bQ (v:=.int 20) `IO h20 ⟨t20,rfl⟩))) (`nU' (M19.ok base) hr `IO M19.g M19.k M19.b .nil b9 (aa (pv 1) `aC')) iU))) br)
   (am (cC (bb (l8 `U' `eO')) `b1' br)
   (am (cC `ah' (aG (aY (`nU' (M16.ok base) hr `IO M16.g M16.k M16.b .nil b9 (aa (pv 1) `aC')))) br)
   (am (cC `ah' (aG (aY (`nU' (M17.ok base) hr `IO M17.g M17.k M17.b .nil b9 (aa (pv 1) `aC')))) br)
   (aG (aY (`nU' (M18.ok base) hr `IO M18.g M18.k M18.b .nil b9 (aa (pv 1) `aC')))))))),?_⟩
  refine#[_,rfl,ra,C,dx,_,_,rfl,h1,KC.cl,KC.f3,rfl,_,rfl,rb,C,Bm,_,_,rfl,xT,KC.cl,KC.f3,rfl,_,_,rfl,rfl,((ka.size+kb.size:Nat):Int),3,rfl,rfl,_,rfl,az `A' fun e=>?_]
  ·have e:=af e;have e:=e;exact qn (.inr `mt)
  show 161;have hs:ka.size+kb.size<=3:=by omega
  refine#[_,rfl,c,19,rfl,rfl,_,rfl,az `A' fun e19=>?_]
  ·obtain rfl:c=19:=by have:=af e;omega
   refine#[_,rfl,ra,C,dx,_,_,rfl,h1,KC.cl,KC.f1,rfl,_,rfl,rb,C,Bm,_,_,rfl,xT,KC.cl,KC.f1,rfl,_,_,rfl,rfl,((ka.len+kb.len:Nat):Int),20,rfl,rfl,_,rfl,az `A' fun e=>?_]
   ·have e:=af e;have e:=e;have hm:=bp (by show ka.len+kb.len<=20;omega);exact#[_,rfl,_,rfl,ra,rb,ka,kb,rfl,hA,hB,hm,hs,ht,qs hm hs]
   ·show 161;exact qn (.inl (bS (by show ¬ka.len+kb.len<=20;omega)))
  have n19:c≠19:=by have:=aj e19;omega
  have hj:∀b:Bool,(ka.len==kb.len)=b->(nH c).may ka kb=b:=fun b e=>by
   unfold nH
   split
   ·exact e
   ·split
    ·exact e
    ·rw[aD `mt];exact e
  refine#[_,rfl,ra,C,dx,_,_,rfl,h1,KC.cl,KC.f1,rfl,_,rfl,rb,C,Bm,_,_,rfl,xT,KC.cl,KC.f1,rfl,_,_,rfl,rfl,_,rfl,az `A' fun e=>?_]
  ·show 22;have e:=af e;exact qn (.inl (hj false (beq_false_of_ne e)))
  show 22;have hl:ka.len=kb.len:=ku.mp (aj e);have hm:=hj true (gv.mpr hl);have q:=qs hm hs;refine#[_,rfl,c,16,rfl,rfl,_,rfl,az `A' fun e16=>?_]
  ·obtain rfl:c=16:=by have:=af e;omega
   exact `dB'
  have n16:c≠16:=by have:=aj e16;omega
  refine#[_,rfl,c,17,rfl,rfl,_,rfl,az `A' fun e17=>?_]
  ·obtain rfl:c=17:=by have:=af e;omega
   exact `dB'
  have n17:c≠17:=by have:=aj e17;omega
  obtain rfl:c=18:=by omega
  exact `dB'
end
abbrev qS:du:=oW (my 74) 0
abbrev tZ:du:=oW (my 75) 0
abbrev yo:du:=oW (my 75) 1
abbrev Kf:du:=oW (my 75) 2
abbrev SE:du:=oW (my 75) 3
abbrev Dp:du:=oW (my 75) 4
abbrev vI:du:=oW (my 75) 5
abbrev Ag:du:=oW (my 75) 6
structure N8 (K:ai) (C:ak):Prop where
 cl:OZ K C
 f1:j6 K C "number"
 f2:j6 K C "given"
 f3:j6 K C "listed"
 f4:j6 K C "after"
structure Gn (K:ai) (C:ak):Prop where
 cl:OZ K C
 f1:j6 K C "kinds"
abbrev we (v1 v2 v3 v4:V):List (Str×V):=[("number",v1),("given",v2),("listed",v3),("after",v4)]
def xF (C:ak) (H:Hp) (kvs:List (nB×V)) (s:eh):Prop:=∀t:Nat,(s.at_ t=none->iA kvs `ae'=none)/\∀o,s.at_ t=some o->∃r kd,o=Wqarao.opened kd/\iA kvs `ae'=some `bd'/\KD C H r kd/\(Wqarao.opened kd).count<2^62
def jL (C CR:ak) (H:Hp) (rm dk:ak) (N:Nat) (s:eh):Prop:=∃lC kvs,H rm=some `aO'/\H dk=some `da'/\kvs.length<=N/\s.length=6/\xF C H kvs s
def Qm (TB:qI) (dk:ak) (H H':Hp):Prop:=∀b o,H b=some o->b∉TB.map (·.1)->b≠dk->H' b=some o
def wA (C CR:ak) (TB:qI) (H:Hp) (Q:VK) (rm dk:ak) (N:Nat) (QI:Wqarao.Result):Prop:=∀(H':Hp) (l:ak),Qm TB dk H H'->eQ TB H'->H l=Option.none->H' l=some (.lst (Do QI.2))->jL C CR H' rm dk (N+1) QI.1->Q `cp' H'
def k4.ofKD {H H':Hp} (k:∀b xs,H b=some `cd'->H' b=some `cd') (k2:∀b xs,H b=some `bh'->H' b=some `bh') {a:ak} {cs:List `at'} (x:k4 H a cs):k4 H' a cs:=by
 obtain⟨as,h1,h2⟩:=x;exact#[as,k2 _ _ h1,b4 (fun b c e=>k _ _ e) h2]
def KD.of {C:ak} {H H':Hp} {r:ak} {kd:aT} (x:KD C H r kd) (k:∀b o,H b=some o->(∀ps,o≠ .tbl ps)->(∀kvs,o≠ .dK kvs)->H' b=some o):KD C H' r kd:=by
 obtain⟨g,G,m,⟨dx,la,wa,oA,qB,h1,h2,h3,h4,h5,h6⟩,h⟩:=x;have kt:∀b xs,H b=some `cd'->H' b=some `cd':=fun b xs e=>k _ _ e `ay' `ay';have kl:∀b xs,H b=some `bh'->H' b=some `bh':=fun b xs e=>k _ _ e `ay' `ay';exact#[g,G,m,#[dx,la,wa,oA,qB,k _ _ h1 `ay' `ay',kl _ _ h2,b4 (fun b c t=>k4.ofKD kt kl t) h3,kl _ _ h4,b4 (fun b c e=>kl _ _ e) h5,h6],h]
def xF.of {C:ak} {H H':Hp} {kvs:List (nB×V)} {s:eh} (x:xF C H kvs s) (k:∀b o,H b=some o->(∀ps,o≠ .tbl ps)->(∀kvs,o≠ .dK kvs)->H' b=some o):xF C H' kvs s:=fun t=>⟨(x t).1,fun o e=>by
 obtain⟨r,kd,e1,e2,e3,e4⟩:=(x t).2 o e;exact#[r,kd,e1,e2,e3.of k,e4]⟩
def Qm.get {TB:qI} {dk:ak} {H H':Hp} {kvs:List (nB×V)} (k:Qm TB dk H H') (t:eQ TB H) (hd:H dk=some `da'):∀b o,H b=some o->(∀ps,o≠ .tbl ps)->(∀kvs,o≠ .dK kvs)->H' b=some o:=fun b o e h1 h2=>k b o e (fun hm=>by
 obtain⟨p,hp,rfl⟩:=aV.mp hm;obtain⟨ps,z,_⟩:=t p hp;rw[e] at z;exact h1 ps (aP z)) fun z=>by
 rw[z,hd] at e;exact h2 kvs (aP e).symm
def Pa {s:eh} {t u:Nat} {o:Option Wqarao.Opened} (h:t<s.length):Wqarao.Room.at_ (s.set t o) u=if u=t then o else Wqarao.Room.at_ s u:=by
 unfold Wqarao.Room.at_;rw[qi];by_cases e:t=u
 ·subst e;rw[aD rfl,aD h,aD rfl];rfl
 ·rw[au e,au fun z=>e z.symm]
def Pp {κ:Type} [DecidableEq κ] (kvs:List (κ×V)) (k:κ) (v:V):(ml kvs k v).length<=kvs.length+1:=by
 unfold ml
 split
 ·rw[ae];omega
 ·rw[aE];exact ax _
section
variable {C CR CC:ak} {TB:qI}
def Ht (CC:ak):Sp:=fun vs H Q _=>∃(x dx:ak) (v1 v2 v3 v4:V),vs=[.ref x,v1,v2,v3,v4]/\H x=some (.ins CC dx [])/\Q .non (bO H x (.ins CC dx (we v1 v2 v3 v4)))
abbrev Oy:List Str:=["self","number","given","listed","after"]
def Ic:bY Oy Oy (aw qS):=`dl
def xP {f:ak} {fd:aH} (F:nv K "__init__" "Call.__init__" qS f fd) (KC:N8 K CC):bT P w K mg base dj 1 f fd Oy (Ht CC):=by
 refine F.ok Ic `ST `LE
 ·obtain⟨x,dx,v1,v2,v3,v4,rfl,_⟩:=h;rfl
 ·obtain⟨x,dx,v1,v2,v3,v4,rfl,hx,q⟩:=h;refine#[_,am (ow (pv 0) (pv 1) rfl) (am (ow (pv 0) (pv 2) rfl) (am (ow (pv 0) (pv 3) rfl) (aG (ow (pv 0) (pv 4) rfl)))),?_];refine#[_,rfl,_,rfl,x,CC,dx,_,rfl,hx,KC.cl,KC.f1,by decide,?_];refine#[_,rfl,_,rfl,x,CC,dx,_,rfl,aq,KC.cl,KC.f2,bG (fy (ax _)) `KK,?_];refine#[_,rfl,_,rfl,x,CC,dx,_,rfl,aq,KC.cl,KC.f3,bG `ej' `KK,?_];refine#[_,rfl,_,rfl,x,CC,dx,_,rfl,aq,KC.cl,KC.f4,bG (fy `ej') `KK,?_];simp only[qA];exact q
def HY (CR:ak):Sp:=fun vs H Q _=>∃(x dx:ak),vs=[.ref x]/\H x=some (.ins CR dx [])/\∀dk,H dk=Option.none->Q .non (bO (bO H dk (.dK [])) x (.ins CR dx [("kinds",.ref dk)]))
def HD:bY ["self"] ["self"] (aw tZ):=`dl
def Fp {f:ak} {fd:aH} (F:nv K "__init__" "Room.__init__" tZ f fd) (KC:Gn K CR):bT P w K mg base dj 1 f fd ["self"] (HY CR):=by
 refine F.ok HD `ST `LE
 ·obtain⟨x,dx,rfl,_⟩:=h;rfl
 ·obtain⟨x,dx,rfl,hx,q⟩:=h;refine#[_,aG (ow (pv 0) E4 rfl),?_];intro dk px;exact#[_,rfl,x,CR,dx,_,rfl,aM.new px _ _ hx,KC.cl,KC.f1,by decide,q dk px]
def Wc (C CR:ak) (TB:qI):Sp:=fun vs H Q _=>∃(rm dk r:ak) (t N:Nat) (kd:aT) (s:eh),vs=[.ref rm,nV t,.ref r]/\jL C CR H rm dk N s/\N<=1000/\t<6/\KD C H r kd/\eQ TB H/\wA C CR TB H Q rm dk N (opens s t kd)
abbrev uD:List Str:=["self","t","kind"]
def Vc:bY uD uD (aw Ag):=`dl
def DQ {f:ak} {fd:aH} (F:nv K "keep" "Room.keep" Ag f fd) (KC:oQ K C) (RC:Gn K CR) (T:Txt5 K mg):bT P w K mg base dj 1 f fd uD (Wc C CR TB):=by
 refine F.ok Vc `ST `a5'
 ·obtain⟨rm,dk,r,t,N,kd,s,rfl,_⟩:=h;rfl
 ·obtain⟨rm,dk,r,t,N,kd,s,rfl,⟨lC,kvs,qH,px,fY,UQ,yE⟩,hN,ht,ND,sv,q⟩:=h;obtain⟨gd,G,m,hK,hG⟩:=id ND;obtain⟨dx,la,wa,oA,qB,h1,_⟩:=id hK;obtain⟨t4,h4⟩:=T.c4;obtain⟨tr,NC⟩:=T.rlim;have ve:=y6 hG;have hu:=ux hr;have big:2000<sizeLine:=by decide
  refine⟨_,am (cC (bb (sO `eO' (`on' `IO NC ⟨tr,rfl⟩))) (aG (aY (db (aa (bQ (v:=.int (-4)) `IO h4 ⟨t4,rfl⟩) aB)))) br)
   (am (DP hu `XV (pv 1) (pv 2) rfl)
   (aG (aY (db (aa aC (aa `eO' (aa `eO' aB))))))),?_⟩
  have hM:MANY=4611686018427387904:=by decide
  have hMp:(2:Nat)^62=4611686018427387904:=by decide
  refine#[_,rfl,r,C,dx,_,_,rfl,h1,KC.cl,KC.f7,rfl,_,_,rfl,rfl,_,rfl,az `A' fun e=>?_]
  ·have e:=af e;rw[ve] at e;have e:(4611686018427387904:Int)<=((Wqarao.opened kd).count:Int):=e;have hq:opens s t kd=(s,#[-4,[]]):=by
    unfold opens;rw[aD `mt];rfl
   rw[hq] at q;refine#[by show 1<=sizeLine;decide,fun l hl=>q _ l (fun b o e _ _=>aM.new hl _ _ e) (sv.same `lM') hl (by rw[aq,fz];rfl) #[lC,kvs,aM.new hl _ _ qH,aM.new hl _ _ px,by omega,UQ,yE.of fun b o e _ _=>aM.new hl _ _ e]]
  ·have e:=aj e;rw[ve] at e;have e:¬(4611686018427387904:Int)<=((Wqarao.opened kd).count:Int):=e;have hq:opens s t kd=(s.set t (some `ev'),#[0,[kd.len,(Wqarao.opened kd).count]]):=by
    unfold opens;rw[au `mt];rfl
   rw[hq] at q;refine#[_,rfl,_,rfl,rm,CR,lC,_,_,rfl,qH,RC.cl,RC.f1,rfl,_,rfl,dk,_,rfl,D6.k (k:=Sum.inl (t:Int)) px `mt,?_];have Ji:∀b o,H b=some o->b≠dk->(bO H dk (.dK (ml kvs `ae' `bd'))) b=some o:=fun b o e hb=>by rw[aZ hb];exact e
   have Wt:r≠dk:=eD h1 px `XL;have hmd:rm≠dk:=eD qH px `XL;have x1:=Ji _ _ h1 Wt;have KS:eQ TB (bO H dk (.dK (ml kvs `ae' `bd'))):=fun p hp=>by
    show 17
   have e1:(bO H dk (.dK (ml kvs `ae' `bd'))) dk=some (.dK (ml kvs `ae' `bd')):=aq;have kk:∀b o,H b=some o->(∀ps,o≠ .tbl ps)->(∀kvs,o≠ .dK kvs)->(bO H dk (.dK (ml kvs `ae' `bd'))) b=some o:=fun b o e _ h2=>Ji b o e fun z=>by
    rw[z,px] at e;exact h2 kvs (aP e).symm
   have kI:∀l,(bO H dk (.dK (ml kvs `ae' `bd'))) l=Option.none->H l=Option.none:=fun l hl=>by
    cases z:H l with
    |none=>rfl
    |some o=>
     by_cases c:l=dk
     ·rw[c,e1] at hl;cases hl
     ·rw[Ji l o z c] at hl;cases hl
   have Uu:xF C (bO H dk (.dK (ml kvs `ae' `bd'))) (ml kvs `ae' `bd') (s.set t (some `ev')):=fun u=>by
    rw[Pa `mt,PM];show 215
    by_cases c:u=t
    ·rw[aD c,aD (Nh.mpr c)];refine#[`dI',fun o z=>?_];cases z;exact#[r,kd,rfl,rfl,ND.of kk,by omega]
    ·rw[au c,au fun z=>c (Nh.mp z)];exact(yE.of kk) u
   generalize bO H dk (.dK (ml kvs `ae' `bd'))=H1 at*
   refine#[_,rfl,r,C,dx,_,_,rfl,x1,KC.cl,KC.f1,rfl,_,rfl,r,C,dx,_,_,rfl,x1,KC.cl,KC.f7,rfl,by show 3<=sizeLine;decide,fun l hl=>q _ l `hX' (KS.same `lM') (kI l hl) ?_ `dd']
   ·rw[aq,fz,ve];rfl
   ·have:=Pp kvs `ae' `bd';omega
   ·rw[eC];exact UQ
end
def xF.cases {C:ak} {H:Hp} {kvs:List (nB×V)} {s:eh} (x:xF C H kvs s) (t:Nat):(s.at_ t=none/\iA kvs `ae'=none)\/∃r kd,s.at_ t=some `ev'/\iA kvs `ae'=some `bd'/\KD C H r kd/\(Wqarao.opened kd).count<2^62:=by
 cases e:s.at_ t with
 |none=>exact .inl #[rfl,(x t).1 e]
 |some o=>
  obtain⟨r,kd,rfl,h1,h2,h3⟩:=(x t).2 o e;exact .inr #[r,kd,rfl,h1,h2,h3]
section
variable {C CR CC:ak} {TB:qI} {H H0:Hp} {rm dk:ak} {N:Nat} {s:eh} {Q:VK} {QI:Wqarao.Result}
def jL.same (x:jL C CR H rm dk N s) (k:aM H H0):jL C CR H0 rm dk N s:=by
 show 175;exact#[lC,kvs,k _ _ h1,k _ _ h2,h3,h4,h5.of fun b o e _ _=>k _ _ e]
def jL.keep (x:jL C CR H rm dk N s) (k:lP TB H H0) (t:eQ TB H):jL C CR H0 rm dk N s:=by
 show 175;exact#[lC,kvs,k.get t h1 `ay',k.get t h2 `ay',h3,h4,h5.of fun b o e z _=>k.get t e z]
def jL.more {N':Nat} (x:jL C CR H rm dk N s) (h:N<=N'):jL C CR H rm dk N' s:=by
 show 175;exact#[lC,kvs,h1,h2,aU h3 h,h4,h5]
def wA.keep (q:wA C CR TB H Q rm dk N QI) (k:lP TB H H0) (t:eQ TB H0):wA C CR TB H0 Q rm dk N QI:=fun H' l k' t' hl sJ hR=>q H' l (fun b o e h1 h2=>k' b o (k b o e h1) h1 h2) t' (k.free t hl) sJ hR
def wA.toRes {a:Answer} (q:wA C CR TB H Q rm dk N (s,a)) (t:eQ TB H) (x:jL C CR H rm dk N s):MT H Q a:=fun H' l k hl sJ=>q H' l (fun b o e _ _=>k _ _ e) (t.same k) hl sJ ((x.same k).more (Nat.le_succ _))
def wA.no {a:Answer} (q:wA C CR TB H Q rm dk N QI) (t:eQ TB H) (x:jL C CR H rm dk N s) (e:QI=(s,a)):MT H Q a:=by
 subst e;exact q.toRes t x
def HX (CC:ak) (H:Hp) (cl:ak) (c:Nat) (gs ls:List Nat):Prop:=∃u5 ag al v,H cl=some (.ins CC u5 (we (nV c) (.ref ag) (.ref al) v))/\H ag=some `eo'/\H al=some `fL'
def Qk {x:Nat} {l:List Nat}:ou ((x::l).map nV) (some 1) none=l.map nV:=by
 unfold ou;rw[show(1:Int)=((1:Nat):Int) from rfl,HT.sIx_nat,HT.sIx_none,ae,aF,show min 1 `fR'=1 by omega,bw,oC,fZ,cS `iw']
def xg {κ:Type} [DecidableEq κ] (k j:κ):∀kvs:List (κ×V),iA (lA kvs k) j=if j=k then none else iA kvs j
 | []=>by
  rw[show lA ([]:List (κ×V)) k=[] from rfl,Fh]
  split<;>rfl
 |p::r=>by
  show 189
  ·rw[Mx e,xg k j r];by_cases h:j=k
   ·rw[aD h,aD h]
   ·rw[au h,au h,iT fun z=>h (by rw[<-z,e])]
  ·rw[Lc e];by_cases h:p.1=j
   ·rw[jl h,jl h,au fun z=>e (by rw[h,z])]
   ·rw[iT h,iT h,xg k j r]
end
def l9.n {H:Hp} {a:ak} {kvs:List (nB×V)} {t:Nat} {v:Option V} (e:H a=some `da') (h:iA kvs `ae'=v):l9 H a (nV t) v:=by
 rw[<-h];exact l9.k (k:=Sum.inl (t:Int)) e
structure QR (K:ai) (CR:ak) (x q:Str) (st:du) (f:ak) (fd:aH) (ps:List Str):Prop where
 m:SG K CR x f
 b:fV K fd ps []
 fn:nv K x q st f fd
section
variable {C CR CC:ak} {TB:qI}
def VR (C CR CC:ak) (TB:qI):Sp:=fun vs H Q _=>∃(rm dk cl:ak) (N c t:Nat) (gs ls:List Nat) (kd:aT) (s:eh),vs=[.ref rm,.ref cl]/\jL C CR H rm dk N s/\N<=1000/\HX CC H cl c (t::gs) ls/\j8 c gs ls=some kd/\1<=c/\c<=15/\eQ TB H/\wA C CR TB H Q rm dk N (Wqarao.step s (.open_ t kd))
abbrev Wd:List Str:=["self","call","t","kind"]
def Ib:bY Wd `fY' (aw Kf):=`dl
def Sh {f f15 fK:ak} {fd d15 dK:aH} (F:nv K "make" "Room.make" Kf f fd) (KC:oQ K C) (RC:Gn K CR) (CL:N8 K CC) (T:Txt5 K mg) (G:ub K mg "one_of_fifteen" tp f15 d15 FB) (M:Mks P w K mg C TB) (MK:QR K CR "keep" "Room.keep" Ag fK dK uD):bT P w K mg base dj 9 f fd `fY' (VR C CR CC TB):=by
 refine F.ok Ib `ST `a5'
 ·obtain⟨rm,dk,cl,N,c,t,gs,ls,kd,s,rfl,_⟩:=h;rfl
 ·obtain⟨rm,dk,cl,N,c,t,gs,ls,kd,s,rfl,hR,hN,⟨u5,ag,al,av,oi,hg,hl⟩,EC,KY,Ek,sv,q⟩:=h;obtain⟨t5,h5⟩:=T.lastk;obtain⟨t1,h1⟩:=T.c1;refine⟨_,am (`n1' Ib.nd rfl `Cl (bz bi `U' aC `Ch))
   (am (cC (bb (fq (pv 2) (bQ (v:=.int 5) `IO h5 ⟨t5,rfl⟩))) (aG (aY (db (aa (`n6' `IO h1 ⟨t1,rfl⟩) aB)))) br)
   (am (`n2' Ib.nd rfl `Cl (bZ (VI G.fn M) hr `IO G.g G.k G.b .nil b9 (aa `U' (aa (iB nJ `U' (im aC) lU) (aa `U' aB)))))
   (am (cC (bb (AV (pv 3))) (aG (aY (db (aa (`n6' `IO h1 ⟨t1,rfl⟩) aB)))) br)
   (aG (aY (qr (pv 0) RC.cl MK.m `g0' (hr.mono `KK) MK.b .nil b9 (aa (pv 2) `aY'))))))),?_⟩
  refine#[_,rfl,cl,CC,u5,_,_,rfl,oi,CL.cl,CL.f2,rfl,ag,_,0,nV t,rfl,rfl,SqL.of hg,bx rfl,?_];show 83
  ·show 9;show `eS'=_;rw[aD (.inl `mt)];rfl
  show 161;refine#[_,rfl,cl,CC,u5,_,_,rfl,oi,CL.cl,CL.f1,rfl,_,rfl,cl,CC,u5,_,_,rfl,oi,CL.cl,CL.f2,rfl,1,rfl,ag,_,rfl,SqL.of hg,fun p hp=>?_];show 118
  generalize bO H p `aU'=H1 at*
  refine#[_,rfl,cl,CC,u5,_,_,rfl,s1 _ _ oi,CL.cl,CL.f3,rfl,p,al,c,gs,ls,kd,rfl,CP,s1 _ _ hl,EC,KY,Ek,sv.same s1,fun hm=>?_,fun hm H2 r k2 t2 WX XR=>?_]
  ·show 154;refine#[by show 1<=sizeLine;decide,fun l hl=>(q.no sv hR (a:=#[-1,[]]) ?_).lst s1 `af' l hl];show `eS'=_;rw[aD (.inr hm)];rfl
  ·refine⟨_,rfl,_,rfl,az (fun e=>`dt') fun e=>?_⟩;have k02:=(lP.of s1).trans k2;have UK:=hR.keep k02 sv;obtain⟨lC,kvs,qH,_⟩:=id UK;rw[show Wqarao.step s (.open_ t kd)=opens s t kd by
    show `eS'=_;rw[au fun z=>by
     rcases z with z|z
     ·omega
     ·rw[hm] at z;cases z]] at q
   exact#[_,rfl,rm,lC,_,rfl,qH,rfl,_,rfl,_,rfl,rm,dk,r,t,N,kd,s,rfl,UK,hN,by omega,XR,t2,q.keep k02 t2]
def ZO (C CR:ak) (TB:qI):Sp:=fun vs H Q _=>∃(rm dk:ak) (N c t a b:Nat) (s:eh),vs=[.ref rm,nV c,nV t,nV a,nV b]/\jL C CR H rm dk N s/\N<=1000/\16<=c/\c<=19/\eQ TB H/\wA C CR TB H Q rm dk N (Wqarao.step s `gM')
abbrev Qy:List Str:=["self","number","t","a","b"]
abbrev ZH:List Str:=["self","number","t","a","b","kind"]
def Ub:bY ZH Qy (aw SE):=`dl
def Vi {f f2 fK:ak} {fd d2 dK:aH} (F:nv K "put_together" "Room.put_together" SE f fd) (KC:oQ K C) (RC:Gn K CR) (T:Txt5 K mg) (G:ub K mg "one_of_two" Ot f2 d2 E2) (J:Jns P w K mg C TB) (MK:QR K CR "keep" "Room.keep" Ag fK dK uD):bT P w K mg base dj 9 f fd Qy (ZO C CR TB):=by
 refine F.ok Ub `ST `a5'
 ·obtain⟨rm,dk,N,c,t,a,b,s,rfl,_⟩:=h;rfl
 ·obtain⟨rm,dk,N,c,t,a,b,s,rfl,hR,hN,KY,Ek,sv,q⟩:=h;obtain⟨t5,h5⟩:=T.lastk;obtain⟨t1,h1⟩:=T.c1;obtain⟨t2,h2⟩:=T.c2;obtain⟨t3,h3⟩:=T.c3;have hu:=ux hr;obtain⟨lC,kvs,qH,px,fY,UQ,yE⟩:=id hR;refine⟨_,am (cC (bb (fq (pv 2) (bQ (v:=.int 5) `IO h5 ⟨t5,rfl⟩))) (aG (aY (db (aa (`n6' `IO h1 ⟨t1,rfl⟩) aB)))) br)
   (am (cC (jv (bb (pk hu (pv 3) `XV)) (j7 (bb (pk hu (pv 4) `XV)))).pt (aG (aY (db (aa (`oh' `IO h3 ⟨t3,rfl⟩) aB)))) br)
   (am (`n7' Ub.nd rfl `Cl (bZ (Vo G.fn T J) hr `IO G.g G.k G.b .nil b9 (aa (pv 1) (aa (o1 hu `XV (pv 3) `Ch) (aa (o1 hu `XV (pv 4) `Ch) aB)))))
   (am (cC (bb (AV (pv 5))) (aG (aY (db (aa (`ob' `IO h2 ⟨t2,rfl⟩) aB)))) br)
   (aG (aY (qr (pv 0) RC.cl MK.m `g0' (hr.mono `KK) MK.b .nil b9 (aa (pv 2) `cP'))))))),?_⟩
  show 83
  ·show 9;show `fH'=_;rw[aD `mt];rfl
  show 161;have et:¬ 6<=t:=by omega
  have uk:Wqarao.step s `gM'=(match s.at_ a,s.at_ b with
   |some x,some y=>if(nH c).may x.kind y.kind=false\/3<x.kind.size+y.kind.size then(s,Wqarao.no (-2)) else opens s t ((nH c).of x.kind y.kind)
   |_,_=>(s,Wqarao.no (-3))):=by
   show `fH'=_;rw[au et];rfl
  show 72
  ·refine `by';show 23
  show 157
  ·show 57
  refine#[_,rfl,_,rfl,rm,CR,lC,_,_,rfl,qH,RC.cl,RC.f1,rfl,dk,some (.ref rb),rfl,l9.n px vb,_,rfl,az (fun z=>`eg') fun _=>?_];rw[ea,eb] at uk;have uk:Wqarao.step s `gM'=if(nH c).may ka kb=false\/3<ka.size+kb.size then(s,Wqarao.no (-2)) else opens s t ((nH c).of ka kb):=uk;refine#[_,rfl,_,rfl,rm,CR,lC,_,_,rfl,qH,RC.cl,RC.f1,rfl,_,rfl,dk,.ref ra,rfl,l9.n px va,_,rfl,rm,CR,lC,_,_,rfl,qH,RC.cl,RC.f1,rfl,_,rfl,dk,.ref rb,rfl,l9.n px vb,?_];refine#[c,ra,rb,ka,kb,rfl,KY,Ek,hA,hB,sv,fun hn=>?_,fun hm hs H2 r k2 Zv WX XR=>?_]
  ·show 154;exact#[by show 1<=sizeLine;decide,fun l hl=>(q.no sv hR (a:=#[-2,[]]) (by rw[uk,aD hn];rfl)).lst `M' `af' l hl]
  ·refine⟨_,rfl,_,rfl,az (fun e=>`dt') fun e=>?_⟩;have UK:=hR.keep k2 sv;obtain⟨abC,acV,aa7,_⟩:=id UK;rw[uk,au fun z=>by
    rcases z with z|z
    ·rw[hm] at z;cases z
    ·omega] at q
   exact#[_,rfl,rm,abC,_,rfl,aa7,rfl,_,rfl,_,rfl,rm,dk,r,t,N,_,s,rfl,UK,hN,by omega,XR,Zv,q.keep k2 Zv]
def RK (C CR:ak) (TB:qI):Sp:=fun vs H Q _=>∃(rm dk al:ak) (N t a:Nat) (p:List Nat) (s:eh),vs=[.ref rm,nV t,nV a,.ref al]/\jL C CR H rm dk N s/\N<=1000/\H al=some `it'/\eQ TB H/\wA C CR TB H Q rm dk N (Wqarao.step s (.begins t a p))
abbrev yg:List Str:=["self","t","a","p"]
def SD:bY yg yg (aw Dp):=`dl
def OI {f fK:ak} {fd dK:aH} (F:nv K "begin" "Room.begin" Dp f fd) (KC:oQ K C) (RC:Gn K CR) (T:Txt5 K mg) (J:Jns P w K mg C TB) (MK:QR K CR "keep" "Room.keep" Ag fK dK uD):bT P w K mg base dj 9 f fd yg (RK C CR TB):=by
 refine F.ok SD `ST `a5'
 ·obtain⟨rm,dk,al,N,t,a,p,s,rfl,_⟩:=h;rfl
 ·obtain⟨rm,dk,al,N,t,a,p,s,rfl,hR,hN,hl,sv,q⟩:=h;obtain⟨t5,h5⟩:=T.lastk;obtain⟨t1,h1⟩:=T.c1;obtain⟨t2,h2⟩:=T.c2;obtain⟨t3,h3⟩:=T.c3;obtain⟨fJ,dJ,M⟩:=J.m20;have hu:=ux hr;obtain⟨lC,kvs,qH,px,fY,UQ,yE⟩:=id hR;refine⟨_,am (cC (bb (fq (pv 1) (bQ (v:=.int 5) `IO h5 ⟨t5,rfl⟩))) (aG (aY (db (aa (`n6' `IO h1 ⟨t1,rfl⟩) aB)))) br)
   (am (cC (bb (pk hu (pv 2) `XV)) (aG (aY (db (aa (`oh' `IO h3 ⟨t3,rfl⟩) aB)))) br)
   (am (cC (bb (fq (dq eu `IO T.nLen cY `aY') (bq (o1 hu `XV (pv 2) `Ch) rfl))) (aG (aY (db (aa (`ob' `IO h2 ⟨t2,rfl⟩) aB)))) br)
   (aG (aY (qr (pv 0) RC.cl MK.m `g0' (hr.mono `KK) MK.b .nil b9 (aa (pv 1) (aa (bZ (M.ok base) (hr.mono `KK) `IO M.g M.k M.b .nil b9 (aa (o1 hu `XV (pv 2) `Ch) `aY')) aB))))))),?_⟩
  show 83
  ·show 9;show `fH'=_;rw[aD `mt];rfl
  show 161;have et:¬ 6<=t:=by omega
  have uk:Wqarao.step s (.begins t a p)=(match s.at_ a with
   |none=>(s,Wqarao.no (-3))
   |some x=>if x.kind.len<p.length then(s,Wqarao.no (-2)) else opens s t (.begins x.kind p)):=by
   show `fH'=_;rw[au et];rfl
  show 72
  ·refine#[_,rfl,_,rfl,rm,CR,lC,_,_,rfl,qH,RC.cl,RC.f1,rfl,dk,none,rfl,l9.n px va,_,rfl,az `jB' fun z=>`eg'];show 23
  refine `av';rw[ea] at uk;have uk:Wqarao.step s (.begins t a p)=if ka.len<p.length then(s,Wqarao.no (-2)) else opens s t (.begins ka p):=uk;obtain⟨gd,G0,m0,hK,hG⟩:=id hA;obtain⟨dx,la,wa,oA,qB,hk1,_⟩:=id hK;refine#[_,rfl,al,_,rfl,.inl (SqL.of hl),_,rfl,rm,CR,lC,_,_,rfl,qH,RC.cl,RC.f1,rfl,_,rfl,dk,.ref ra,rfl,l9.n px va,ra,C,dx,_,_,rfl,hk1,KC.cl,KC.f1,rfl,(p.length:Int),(ka.len:Int),by rw[ae],rfl,_,rfl,az `A' fun e=>?_]
  ·show 128;show 50
  show 128;have e:=aj e;rw[uk,au e] at q;refine#[_,rfl,rm,lC,_,rfl,qH,rfl,_,rfl,_,rfl,rm,CR,lC,_,_,rfl,qH,RC.cl,RC.f1,rfl,_,rfl,dk,.ref ra,rfl,l9.n px va,_,rfl,ra,al,ka,p,rfl,hA,hl,by omega,sv,fun H2 r k2 Zv WX XR=>?_];exact#[rm,dk,r,t,N,_,s,rfl,hR.keep k2 sv,hN,by omega,XR,Zv,q.keep k2 Zv]
def Lu (C CR:ak) (TB:qI):Sp:=fun vs H Q _=>∃(rm dk:ak) (N a b:Nat) (s:eh),vs=[.ref rm,nV a,nV b]/\jL C CR H rm dk N s/\eQ TB H/\wA C CR TB H Q rm dk N (Wqarao.step s `m4')
abbrev w6:List Str:=["self","a","b"]
abbrev LM:List Str:=["self","a","b","row"]
def Cj:bY LM w6 (aw vI):=`dl
structure Alk (K:ai) (mg:Str->Option aA) (fA fF fM fW:ak) (dA dF dM dW:aH):Prop where
 a:ub K mg "first_apart" D8 fA dA `cg'
 f:ub K mg "fit_letters" Mf fF dF `eA'
 m:ub K mg "merge" uO fM dM `a1'
 w:ub K mg "first_way_apart" Qq fW dW `dL'
def Ct {ka kb:aT} {r:List Nat} (h:Wqarao.apart ka kb=some r) (hl:ka.len=kb.len):r.length<=ka.len:=by
 have key:∀{a b:aT} {r:List Nat},(Wqarao.opened `hM').row 0=some r->r.length<=a.len:=fun{a b r} h=>by
  rw[Aj] at h
  split at h
  ·rename_i h0;cases h;exact jg (vP _ _ h0).1
  ·cases h
 unfold Wqarao.apart at h
 split at h
 ·rename_i y e1;have:=key h;omega
 ·rename_i x e1 e2;exact key h
 ·rename_i x y e1 e2
  split at h
  ·rw[<-aP h];exact key e1
  ·rw[<-aP h];have:=key e2;omega
def IH {f fA fF fM fW:ak} {fd dA dF dM dW:aH} (F:nv K "compare" "Room.compare" vI f fd) (KC:oQ K C) (RC:Gn K CR) (T:Txt5 K mg) (S:Alk K mg fA fF fM fW dA dF dM dW):bT P w K mg base dj 9 f fd w6 (Lu C CR TB):=by
 refine F.ok Cj `ST `a5'
 ·obtain⟨rm,dk,N,a,b,s,rfl,_⟩:=h;rfl
 ·obtain⟨rm,dk,N,a,b,s,rfl,hR,sv,q⟩:=h;obtain⟨t2,h2⟩:=T.c2;obtain⟨t3,h3⟩:=T.c3;have hu:=ux hr;obtain⟨lC,kvs,qH,px,fY,UQ,yE⟩:=id hR;refine⟨_,am (cC (jv (bb (pk hu (pv 1) `XV)) (j7 (bb (pk hu (pv 2) `XV)))).pt (aG (aY (db (aa (`oh' `IO h3 ⟨t3,rfl⟩) aB)))) br)
   (am (cC (bb (l8 (bq (o1 hu `XV (pv 1) `Ch) rfl) (bq (o1 hu `XV (pv 2) `Ch) rfl))) (aG (aY (db (aa (`ob' `IO h2 ⟨t2,rfl⟩) aB)))) br)
   (am (`n2' Cj.nd rfl `Cl (bZ (PP S.a.fn KC T S.f S.m S.w) (hr.mono `KK) `IO S.a.g S.a.k S.a.b .nil b9 (aa (o1 hu `XV (pv 1) `Ch) (aa (o1 hu `XV (pv 2) `Ch) aB))))
   (am (cC (bb (AV (pv 3))) (aG (aY (db `hO'))) br)
   (aG (aY (cJ uY (db `hO') (pv 3))))))),?_⟩
  have uk:Wqarao.step s `m4'=(s,match s.at_ a with
   |none=>Wqarao.no (-3)
   |some x=>match s.at_ b with
    |none=>Wqarao.no (-3)
    |some y=>if x.kind.len≠y.kind.len then Wqarao.no (-2) else match Wqarao.apart x.kind y.kind with
     |none=>tells [1]
     |some r=>tells (0::r)):=rfl
  show 72
  ·refine `by';show 23
  show 157
  ·show 57
  refine⟨_,rfl,_,rfl,rm,CR,lC,_,_,rfl,qH,RC.cl,RC.f1,rfl,dk,some (.ref rb),rfl,l9.n px vb,_,rfl,az (fun z=>`eg') fun _=>?_⟩;rw[ea,eb] at uk;have uk:Wqarao.step s `m4'=(s,if ka.len≠kb.len then Wqarao.no (-2) else match Wqarao.apart ka kb with
   |none=>tells [1]
   |some r=>tells (0::r)):=uk
  obtain⟨gda,Ga,ma,ED,Wo⟩:=id hA;obtain⟨dxa,laa,waa,acT,acX,hka,_⟩:=id ED;obtain⟨gdb,Gb,mb,GE,Wj⟩:=id hB;obtain⟨dxb,lab,wab,acK,ac0,hkb,_⟩:=id GE;refine#[_,rfl,rm,CR,lC,_,_,rfl,qH,RC.cl,RC.f1,rfl,_,rfl,dk,.ref ra,rfl,l9.n px va,ra,C,dxa,_,_,rfl,hka,KC.cl,KC.f1,rfl,_,rfl,rm,CR,lC,_,_,rfl,qH,RC.cl,RC.f1,rfl,_,rfl,dk,.ref rb,rfl,l9.n px vb,rb,C,dxb,_,_,rfl,hkb,KC.cl,KC.f1,rfl,(ka.len:Int),(kb.len:Int),rfl,rfl,_,rfl,az `A' fun e=>?_]
  ·show 22;show 50
  show 22;have e:=aj e;have Bg:=ku.mp e;rw[au e] at uk;refine#[_,rfl,rm,CR,lC,_,_,rfl,qH,RC.cl,RC.f1,rfl,_,rfl,dk,.ref ra,rfl,l9.n px va,_,rfl,rm,CR,lC,_,_,rfl,qH,RC.cl,RC.f1,rfl,_,rfl,dk,.ref rb,rfl,l9.n px vb,ra,rb,ka,kb,rfl,hA,hB,Bg,fun hn H1 s1=>?_,fun r hs H1 l s1 hl rC=>?_]
  ·show 154;exact#[by show 2<=sizeLine;decide,fun l hl=>(q.no sv hR (a:=#[0,[1]]) (by rw[uk,hn];rfl)).lst s1 `af' l hl]
  ·refine#[_,rfl,_,rfl,az (fun e=>`dt') fun e=>?_];refine#[by show 2<=sizeLine;decide,fun p hp=>#[_,rfl,p,l,_,_,rfl,rfl,aq,aM.new hp _ _ rC,?_,fun p2 Ey=>(q.no sv hR (a:=#[0,0::r]) (by rw[uk,hs];rfl)).lst (s1.trans `fQ') `af' p2 Ey]];have:=Ct hs Bg;have:=gda.len;rw[ae];show 2+r.length<=sizeLine;have:100<=sizeLine:=by decide
   omega
end
inductive su:Nat->List Nat->List Nat->Wqarao.Call->Prop
 |mk {c t:Nat} {gs ls:List Nat} {kd:aT}:1<=c->c<=15->j8 c gs ls=some kd->su c (t::gs) ls (.open_ t kd)
 |jn {c t a b:Nat} {ls:List Nat}:16<=c->c<=19->su c [t,a,b] ls `gM'
 |bg {t a:Nat} {ls:List Nat}:su 20 [t,a] ls (.begins t a ls)
 |ab {c t:Nat} {gs ls:List Nat} {x:Wqarao.Call}:21<=c->c<=28->(c=22->0<gs.length)->`j4'->(∀s:eh,s.at_ t=none->Wqarao.step s x=(s,⟨-3,[]⟩))->(∀(s:eh) kd,s.at_ t=some `ev'->Wqarao.step s x=(s,iW c gs ls kd))->su c (t::gs) ls x
 |fr {n:Nat} {ls:List Nat}:su 29 [n] ls (.fair n ls)
 |al {a b:Nat} {ls:List Nat}:su 30 [a,b] ls `m4'
 |dr {t:Nat} {ls:List Nat}:su 31 [t] ls (.drop t)
section
variable {C CR CC:ak} {TB:qI}
def Od (C CR CC:ak) (TB:qI):Sp:=fun vs H Q _=>∃(rm dk cl:ak) (N c:Nat) (gs ls:List Nat) (x:Wqarao.Call) (s:eh),vs=[.ref rm,.ref cl]/\jL C CR H rm dk N s/\N<=1000/\HX CC H cl c gs ls/\su c gs ls x/\ls.length<=sizeLine/\(∀y∈ls,y<4294967296)/\eQ TB H/\wA C CR TB H Q rm dk N (Wqarao.step s x)
abbrev OS:List Str:=["self","call","number"]
def Gs:bY OS `fY' (aw yo):=`dl
structure Rms (P:bN) (w:cV) (K:ai) (mg:Str->Option aA) (C CR CC:ak) (TB:qI):Prop where
 kc:oQ K C
 rc:Gn K CR
 cc:N8 K CC
 t:Txt5 K mg
 mks:Mks P w K mg C TB
 jns:Jns P w K mg C TB
 keep:∃f fd,QR K CR "keep" "Room.keep" Ag f fd uD
 make:∃f fd,QR K CR "make" "Room.make" Kf f fd `fY'
 put:∃f fd,QR K CR "put_together" "Room.put_together" SE f fd Qy
 begin_:∃f fd,QR K CR "begin" "Room.begin" Dp f fd yg
 compare:∃f fd,QR K CR "compare" "Room.compare" vI f fd w6
 fif:∃f fd,ub K mg "one_of_fifteen" tp f fd FB
 two:∃f fd,ub K mg "one_of_two" Ot f fd E2
 alk:∃fA fF fM fW dA dF dM dW,Alk K mg fA fF fM fW dA dF dM dW
 qs:∃fR fB fF fN fO fL dR dB dF dN dO dL,Qs K mg C fR fB fF fN fO fL dR dB dF dN dO dL
 qa:∃f1 f2 f3 f4 f5 d1 d2 d3 d4 d5,Qa K mg f1 f2 f3 f4 f5 d1 d2 d3 d4 d5
 about:∃f fd,ub K mg "answer_about" tR f fd Rz
 fair:∃f fd,ub K mg "answer_fair" vW f fd `fd'
def K3 {f:ak} {fd:aH} (F:nv K "answer" "Room.answer" yo f fd) (R:Rms P w K mg C CR CC TB):bT P w K mg base dj 10 f fd `fY' (Od C CR CC TB):=by
 refine F.ok Gs `ST `a5'
 ·obtain⟨rm,dk,cl,N,c,gs,ls,x,s,rfl,_⟩:=h;rfl
 ·obtain⟨rm,dk,cl,N,c,gs,ls,x,s,rfl,hR,hN,hC,hx,hz,hw,sv,q⟩:=h;obtain⟨u5,ag,al,av,oi,hg,hl⟩:=id hC;have RC:=R.rc;have CL:=R.cc;have T:=R.t;obtain⟨fK,dK,MK⟩:=R.keep;obtain⟨fM,dM,MM⟩:=R.make;obtain⟨fP,dP,MP⟩:=R.put;obtain⟨fB,dB,MB⟩:=R.begin_;obtain⟨fC,dC,MC⟩:=R.compare;obtain⟨f15,d15,G15⟩:=R.fif;obtain⟨f2,d2,G2⟩:=R.two;obtain⟨gA,gF,gM,gW,eA,eF,eM,eW,AL⟩:=R.alk;obtain⟨fR,fBb,fFf,fN,fO,fL,dR,dBb,dF,dN,dO,dL,S⟩:=R.qs;obtain⟨f1,f2',f3,f4,f5,d1,d2',d3,d4,d5,A5⟩:=R.qa;obtain⟨fQ,dQ,GQ⟩:=R.about;obtain⟨fU,dU,GU⟩:=R.fair;obtain⟨t3,h3⟩:=T.c3;have hu:=ux hr;obtain⟨lC,kvs,qH,px,fY,UQ,yE⟩:=id hR;refine⟨_,am (`n1' Gs.nd rfl `Cl `U')
   (am (cC (bb (JC (pv 2) aC)) (aG (aY (`nZ' (pv 0) RC.cl MM.m (Sh (P:=P) (w:=w) (base:=base) MM.fn R.kc RC CL T G15 R.mks MK) hr MM.b .nil b9 `aN'))) br)
   (am (cC (bb (JC (pv 2) aC)) (aG (aY (`nZ' (pv 0) RC.cl MP.m (Vi (P:=P) (w:=w) (base:=base) MP.fn R.kc RC T G2 R.jns MK) hr MP.b .nil b9 (aa (pv 2) (aa (`nV' `U' aC `Ch) (aa (`nV' `U' aC `Ch) (aa (`nV' `U' aC `Ch) aB))))))) br)
   (am (cC `hi' (aG (aY (`nZ' (pv 0) RC.cl MB.m (OI (P:=P) (w:=w) (base:=base) MB.fn R.kc RC T R.jns MK) hr MB.b .nil b9 (aa (`nV' `U' aC `Ch) (aa (`nV' `U' aC `Ch) (aa `U' aB)))))) br)
   (am (cC `hi' (aG (aY (`nU' (Hs (P:=P) (w:=w) (base:=base) GU.fn T S) (hr.mono `KK) `IO GU.g GU.k GU.b .nil b9 (aa (`nV' `U' aC `Ch) (aa `U' aB))))) br)
   (am (cC `hi' (aG (aY (`nZ' (pv 0) RC.cl MC.m (IH (P:=P) (w:=w) (base:=base) (TB:=TB) MC.fn R.kc RC T AL) hr MC.b .nil b9 (aa (`nV' `U' aC `Ch) (aa (`nV' `U' aC `Ch) aB))))) br)
   (am (cC (bb (pk hu (`nV' `U' aC `Ch) `XV)) (aG (aY (db (aa (`oh' `IO h3 ⟨t3,rfl⟩) aB)))) br)
   (am (cC `hi' (am (gZ (Po `XV (`nV' `U' aC `Ch) ⟨rfl,rfl,rfl,rfl⟩)) (aG (aY `j5'))) br)
   (aG (aY (`nU' (Of (P:=P) (w:=w) (base:=base) GQ.fn T S A5) (hr.mono `KK) `IO GQ.g GQ.k GQ.b .nil b9 (aa (o1 hu `XV (`nV' `U' aC `Ch) `Ch) (aa (pv 2) (aa (`oa' `U' (im aC) lU) (aa `U' aB)))))))))))))),?_⟩
  refine#[_,rfl,cl,CC,u5,_,_,rfl,oi,CL.cl,CL.f1,rfl,?_];have le_:∀k:Nat,((fun i j:Int=>decide (i<=j)) (c:Int) (k:Int))=decide (c<=k):=fun k=>b5.mpr `F';refine#[_,rfl,c,15,rfl,rfl,_,rfl,az `A' fun e1=>?_]
  ·have e:c<=15:=by have:=af e;omega
   cases hx with
   |mk h1 h2 hk=>exact#[_,rfl,rm,lC,_,rfl,qH,rfl,_,rfl,rm,dk,cl,N,c,_,_,ls,_,s,rfl,hR,hN,hC,hk,h1,h2,sv,q]
   |jn h1 h2=>omega
   |bg=>omega
   |ab h1=>omega
   |fr=>omega
   |al=>omega
   |dr=>omega
  have n1:¬c<=15:=by have:=aj e1;omega
  refine#[_,rfl,c,19,rfl,rfl,_,rfl,az `A' fun e1=>?_]
  ·have e:c<=19:=by have:=af e;omega
   cases hx with
   |mk h1 h2 hk=>omega
   |jn h1 h2=>
    exact#[_,rfl,rm,lC,_,rfl,qH,rfl,_,rfl,_,rfl,cl,CC,u5,_,_,rfl,oi,CL.cl,CL.f2,rfl,ag,_,0,_,rfl,rfl,SqL.of hg,bx (j:=0) rfl,_,rfl,cl,CC,u5,_,_,rfl,oi,CL.cl,CL.f2,rfl,ag,_,1,_,rfl,rfl,SqL.of hg,bx (j:=1) rfl,_,rfl,cl,CC,u5,_,_,rfl,oi,CL.cl,CL.f2,rfl,ag,_,2,_,rfl,rfl,SqL.of hg,bx (j:=2) rfl,rm,dk,N,c,_,_,_,s,rfl,hR,hN,h1,h2,sv,q]
   |bg=>omega
   |ab h1=>omega
   |fr=>omega
   |al=>omega
   |dr=>omega
  have n2:¬c<=19:=by have:=aj e1;omega
  refine#[_,rfl,c,20,rfl,rfl,_,rfl,az `A' fun e1=>?_]
  ·have e:c=20:=by have:=af e;omega
   cases hx with
   |mk h1 h2 hk=>omega
   |jn h1 h2=>omega
   |bg=>exact#[_,rfl,rm,lC,_,rfl,qH,rfl,_,rfl,cl,CC,u5,_,_,rfl,oi,CL.cl,CL.f2,rfl,ag,_,0,_,rfl,rfl,SqL.of hg,bx (j:=0) rfl,_,rfl,cl,CC,u5,_,_,rfl,oi,CL.cl,CL.f2,rfl,ag,_,1,_,rfl,rfl,SqL.of hg,bx (j:=1) rfl,_,rfl,cl,CC,u5,_,_,rfl,oi,CL.cl,CL.f3,rfl,rm,dk,al,N,_,_,ls,s,rfl,hR,hN,hl,sv,q]
   |ab h1=>omega
   |fr=>omega
   |al=>omega
   |dr=>omega
  have n3:c≠20:=by have:=aj e1;omega
  refine#[_,rfl,c,29,rfl,rfl,_,rfl,az `A' fun e1=>?_]
  ·have e:c=29:=by have:=af e;omega
   cases hx with
   |mk h1 h2 hk=>omega
   |jn h1 h2=>omega
   |bg=>omega
   |ab h1=>omega
   |fr=>exact#[_,rfl,cl,CC,u5,_,_,rfl,oi,CL.cl,CL.f2,rfl,ag,_,0,_,rfl,rfl,SqL.of hg,bx (j:=0) rfl,_,rfl,cl,CC,u5,_,_,rfl,oi,CL.cl,CL.f3,rfl,al,_,ls,rfl,hl,hz,q.no sv hR rfl]
   |al=>omega
   |dr=>omega
  have n4:c≠29:=by have:=aj e1;omega
  refine#[_,rfl,c,30,rfl,rfl,_,rfl,az `A' fun e1=>?_]
  ·have e:c=30:=by have:=af e;omega
   cases hx with
   |mk h1 h2 hk=>omega
   |jn h1 h2=>omega
   |bg=>omega
   |ab h1=>omega
   |fr=>omega
   |al=>exact#[_,rfl,rm,lC,_,rfl,qH,rfl,_,rfl,cl,CC,u5,_,_,rfl,oi,CL.cl,CL.f2,rfl,ag,_,0,_,rfl,rfl,SqL.of hg,bx (j:=0) rfl,_,rfl,cl,CC,u5,_,_,rfl,oi,CL.cl,CL.f2,rfl,ag,_,1,_,rfl,rfl,SqL.of hg,bx (j:=1) rfl,rm,dk,N,_,_,s,rfl,hR,sv,q]
   |dr=>omega
  have n5:c≠30:=by have:=aj e1;omega
  have hh:∃t gs',gs=t::gs'/\((21<=c/\c<=28/\(c=22->0<gs'.length)/\(c=27->1<gs'.length/\gs'.getD 0 0<2^63)/\(∀s:eh,s.at_ t=none->Wqarao.step s x=(s,`mY'))/\(∀(s:eh) kd,s.at_ t=some `ev'->Wqarao.step s x=(s,iW c gs' ls kd)))\/(c=31/\x= .drop t)):=by
   cases hx with
   |mk h1 h2 hk=>omega
   |jn h1 h2=>omega
   |bg=>omega
   |ab h1 h2 h3 h4 h5 h6=>exact#[_,_,rfl,.inl #[h1,h2,h3,h4,h5,h6]]
   |fr=>omega
   |al=>omega
   |dr=>exact#[_,_,rfl,.inr `hI']
  obtain⟨t,gs,rfl,hh⟩:=hh;rcases yE.cases t with⟨ea,va⟩| ⟨ra,ka,ea,va,hA,ca⟩
  ·refine#[_,rfl,cl,CC,u5,_,_,rfl,oi,CL.cl,CL.f2,rfl,ag,_,0,_,rfl,rfl,SqL.of hg,bx (j:=0) rfl,_,rfl,rm,CR,lC,_,_,rfl,qH,RC.cl,RC.f1,rfl,dk,none,rfl,l9.n px va,_,rfl,az `jB' fun z=>`eg'];refine#[by show 1<=sizeLine;decide,fun l hl=>(q.no sv hR (a:=`mY') ?_).lst `M' `af' l hl];rcases hh with⟨_,_,_,_,h5,_⟩| ⟨_,rfl⟩
   ·exact h5 s ea
   ·show(match s.at_ t with
     |none=>(s,Wqarao.no (-3))
     |some _=>(s.set t none,tells []))=_
    rw[ea];rfl
  refine#[_,rfl,cl,CC,u5,_,_,rfl,oi,CL.cl,CL.f2,rfl,ag,_,0,_,rfl,rfl,SqL.of hg,bx (j:=0) rfl,_,rfl,rm,CR,lC,_,_,rfl,qH,RC.cl,RC.f1,rfl,dk,some (.ref ra),rfl,l9.n px va,_,rfl,az (fun z=>`eg') fun _=>?_];refine#[_,rfl,c,31,rfl,rfl,_,rfl,az `A' fun e1=>?_]
  ·have e:c=31:=by have:=af e;omega
   rcases hh with⟨_,_,_,_,h5,_⟩| ⟨_,rfl⟩
   ·omega
   have uk:Wqarao.step s (.drop t)=(s.set t none,#[0,[]]):=by
    show(match s.at_ t with
     |none=>(s,Wqarao.no (-3))
     |some _=>(s.set t none,tells []))=_
    rw[ea];rfl
   rw[uk] at q;refine#[_,rfl,rm,CR,lC,_,_,rfl,qH,RC.cl,RC.f1,rfl,dk,rfl,.inl #[kvs,.inl px],_,rfl,cl,CC,u5,_,_,rfl,oi,CL.cl,CL.f2,rfl,ag,_,0,_,rfl,rfl,SqL.of hg,bx (j:=0) rfl,kvs,Sum.inl (t:Int),.ref ra,px,rfl,va,?_];have Ji:∀b o,H b=some o->b≠dk->(bO H dk (.dK (lA kvs `ae'))) b=some o:=fun b o e hb=>by rw[aZ hb];exact e
   have hmd:rm≠dk:=eD qH px `XL;have KS:eQ TB (bO H dk (.dK (lA kvs `ae'))):=fun p hp=>by
    show 17
   have e1:(bO H dk (.dK (lA kvs `ae'))) dk=some (.dK (lA kvs `ae')):=aq;have kk:∀b o,H b=some o->(∀ps,o≠ .tbl ps)->(∀kvs,o≠ .dK kvs)->(bO H dk (.dK (lA kvs `ae'))) b=some o:=fun b o e _ h2=>Ji b o e fun z=>by
    rw[z,px] at e;exact h2 kvs (aP e).symm
   have kI:∀l,(bO H dk (.dK (lA kvs `ae'))) l=Option.none->H l=Option.none:=fun l hl=>by
    cases z:H l with
    |none=>rfl
    |some o=>
     by_cases c:l=dk
     ·rw[c,e1] at hl;cases hl
     ·rw[Ji l o z c] at hl;cases hl
   have ht6:t<s.length:=by
    refine Decidable.by_contra fun z=>?_;unfold Wqarao.Room.at_ at ea;rw[bc `mt] at ea;cases ea
   have Uu:xF C (bO H dk (.dK (lA kvs `ae'))) (lA kvs `ae') (s.set t none):=fun u=>by
    rw[Pa ht6,xg];show 215
    by_cases c:u=t
    ·rw[aD c,aD (Nh.mpr c)];exact#[fun _=>rfl,fun o z=>`eg']
    ·rw[au c,au fun z=>c (Nh.mp z)];exact(yE.of kk) u
   have Bg:=FQ kvs (Sum.inl (t:Int):nB);generalize bO H dk (.dK (lA kvs `ae'))=H1 at*
   refine#[by show 1<=sizeLine;decide,fun l hl=>q _ l `hX' (KS.same `lM') (kI l hl) ?_ `dd']
   ·rw[aq,fz];rfl
   ·omega
   ·rw[eC];exact UQ
  have n6:c≠31:=by have:=aj e1;omega
  rcases hh with⟨KY,Ek,hc3,Tv,h5,h6⟩| ⟨e,_⟩
  ·refine#[_,rfl,rm,CR,lC,_,_,rfl,qH,RC.cl,RC.f1,rfl,_,rfl,cl,CC,u5,_,_,rfl,oi,CL.cl,CL.f2,rfl,ag,_,0,_,rfl,rfl,SqL.of hg,bx (j:=0) rfl,dk,.ref ra,rfl,l9.n px va,_,rfl,_,rfl,cl,CC,u5,_,_,rfl,oi,CL.cl,CL.f2,rfl,1,rfl,ag,_,rfl,SqL.of hg,fun p hp=>?_];show 118
   generalize bO H p `aU'=H1 at*
   refine#[_,rfl,cl,CC,u5,_,_,rfl,s1 _ _ oi,CL.cl,CL.f3,rfl,ra,p,al,c,ka,gs,ls,rfl,hA.same s1,ca,CP,s1 _ _ hl,hz,hw,KY,Ek,hc3,Tv,?_];have qq:=q.no sv hR (h6 s ka ea);exact fun H' l s' sJ tO=>qq H' l (s1.trans s') (s1.free sJ) tO
  ·omega
end
abbrev J6:du:=my 78
def T9 (l:List Nat) (at_ c:Nat) (gs ls:List Nat) (BH:Nat):Prop:=∃n k,l[at_]? =some c/\shape (c:Int)=some (n,k)/\at_+1+n<=l.length/\gs=(l.drop (at_+1)).take n/\((k=0/\ls=[]/\BH=at_+1+n)\/(k=1/\∃z,l[at_+1+n]? =some z/\at_+1+n+1+z<=l.length/\ls=(l.drop (at_+1+n+1)).take z/\BH=at_+1+n+1+z))
def De (CC:ak) (H:Hp) (cl:ak) (c:Nat) (gs ls:List Nat) (BH:Nat):Prop:=∃u5 ag al,H cl=some (.ins CC u5 (we (nV c) (.ref ag) (.ref al) (nV BH)))/\H ag=some `eo'/\H al=some `fL'
def De.at {CC:ak} {H:Hp} {cl:ak} {c:Nat} {gs ls:List Nat} {BH:Nat} (x:De CC H cl c gs ls BH):HX CC H cl c gs ls:=let⟨u5,ag,al,h⟩:=x;#[u5,ag,al,_,h]
structure Oh (P:bN) (w:cV) (K:ai) (mg:Str->Option aA) (fa:ak) (kvs:List (nB×V)):Prop where
 g:mg "FORMS"=some (.ref fa)
 d:T6 P w K fa kvs
 at_:∀(c:Int) (n k:Nat),shape c=some (n,k)->∃ft,iA kvs (Sum.inl c)=some (.ref ft)/\∀H,iX K H ft [nV n,.bl (decide (k=1))]
def pH {K:ai} {H H':Hp} {a:ak} {xs:List V} (x:SqL K H a xs) (s:aM H H'):SqL K H' a xs:=by
 rcases x with(x| ⟨o,x⟩)|x
 ·exact .inl (.inl (s _ _ x))
 ·exact .inl (.inr #[o,s _ _ x])
 ·exact .inr x
section
variable {CC:ak}
def V7 (K:ai) (CC:ak):Sp:=fun vs H Q _=>∃(ca:ak) (l:List Nat) (at_ c:Nat) (gs ls:List Nat) (BH:Nat),vs=[.ref ca,nV at_]/\SqL K H ca `bR'/\T9 l at_ c gs ls BH/\∀(H':Hp) (cl:ak),aM H H'->H cl=Option.none->De CC H' cl c gs ls BH->Q (.ref cl) H'
abbrev Ql:List Str:=["calls","at","form","list_at","given","after"]
def Az:bY Ql `ln' (aw J6):=`dl
def Sa {f fI fa:ak} {fd fdI:aH} {kvs:List (nB×V)} (F:nv K "read_call" "read_call" J6 f fd) (FO:Oh P w K mg fa kvs) (CL:N8 K CC) (gC:mg "Call"=some (.ref CC)) (M:Mk K CC fI) (bI:fV K fdI Oy []) (FI:nv K "__init__" "Call.__init__" qS fI fdI):bT P w K mg base dj 3 f fd `ln' (V7 K CC):=by
 refine F.ok Az `ST `LE
 ·obtain⟨ca,l,at_,c,gs,ls,BH,rfl,_⟩:=h;rfl
 ·obtain⟨ca,l,at_,c,gs,ls,BH,rfl,Jb,⟨n,k,hc,hsh,hn,rfl,hk⟩,q⟩:=h;obtain⟨ft,hv,hft⟩:=FO.at_ _ _ _ hsh;refine⟨_,am (`n1' Az.nd rfl `Cl (P9 (bQ (v:=.ref fa) `IO FO.g rfl) (`nV' (pv 0) (pv 1) `Ch) `Ch))
   (am (`n2' Az.nd rfl `Cl (cJ gx `ix' (`nW' (pv 2) aC `Ch)))
   (am (`n9' Az.nd rfl `Cl (`oa' (pv 0) (im `ix') (im (pv 3))))
   (am (cC (Vh (Ir (`nW' (pv 2) aC `Ch))) (aG (aY (`n4' M `j9' hr `IO gC bI .nil b9 (aa (`nV' (pv 0) (pv 1) `Ch) (aa (pv 4) (aa `l6' `aY')))))) br)
   (am (`n7' Az.nd rfl `Cl (cJ gx `iy' (`nV' (pv 0) (pv 3) `Ch)))
   (aG (aY (`n4' M `j9' hr `IO gC bI .nil b9 (aa (`nV' (pv 0) (pv 1) `Ch) (aa (pv 4) (aa (`oa' (pv 0) (im `iy') (im (pv 5))) `cP')))))))))),?_⟩
  rw[show L2.start Ql [.ref ca,nV at_]=[some (.ref ca),some (nV at_),none,none,none,none] from rfl];have Wp:`bR'[at_]? =some (nV c):=by rw[aR,hc];rfl
  refine#[_,rfl,_,rfl,ca,_,at_,nV c,rfl,rfl,Jb,bx Wp,fa,kvs,Sum.inl (c:Int),.ref ft,rfl,FO.d,rfl,hv,?_];refine#[_,rfl,_,_,rfl,rfl,_,rfl,ft,_,0,nV n,rfl,rfl,hft _,bx (j:=0) rfl,((at_+1:Nat):Int),(n:Int),rfl,rfl,?_];refine#[_,rfl,_,rfl,_,_,rfl,rfl,((at_+1:Nat):Int),rfl,_,rfl,((at_+1+n:Nat):Int),rfl,ca,_,rfl,Jb,fun p hp=>?_];rw[yk hn];have s1:aM H (bO H p `ck'):=aM.new hp;have CP:bO H p `ck' p=some `ck':=aq;generalize bO H p `ck'=H1 at*
  refine#[_,rfl,ft,_,1,.bl (decide (k=1)),rfl,rfl,hft _,bx (j:=1) rfl,_,rfl,?_];rcases hk with⟨rfl,rfl,rfl⟩| ⟨rfl,z,hz,hzl,rfl,rfl⟩
  ·refine az `jB' fun e=>`dt'
   refine#[_,rfl,_,rfl,ca,_,at_,nV c,rfl,rfl,pH Jb s1,bx Wp,_,rfl,aN _,fun e he=>?_];have s2:aM H1 (bO H1 e `bo'):=aM.new he;refine `mk';refine#[x,dx,nV c,.ref p,.ref e,nV (at_+1+n),rfl,aq,rfl,?_];rw[qA];have sy:aM (bO H1 e `bo') (bO (bO (bO H1 e `bo') dx `i3') x (.ins CC dx (we (nV c) `dR' (.ref e) (nV (at_+1+n))))):=aM.put (aM.new Wz) hx;exact q _ x (s1.trans (s2.trans sy)) (s1.free (s2.free hx)) #[dx,p,e,aq,sy _ _ (s2 _ _ CP),sy _ _ aq]
  ·refine az (fun e=>`dt') fun _=>?_;have hiz:`bR'[at_+1+n]? =some (nV z):=by rw[aR,hz];rfl
   refine#[_,rfl,_,_,rfl,rfl,_,rfl,_,rfl,ca,_,((at_+1+n:Nat):Int),nV z,rfl,rfl,pH Jb s1,bx hiz,((at_+1+n+1:Nat):Int),(z:Int),rfl,rfl,?_];refine#[_,rfl,_,rfl,ca,_,at_,nV c,rfl,rfl,pH Jb s1,bx Wp,_,rfl,_,rfl,_,rfl,_,_,rfl,rfl,((at_+1+n+1:Nat):Int),rfl,_,rfl,((at_+1+n+1+z:Nat):Int),rfl,ca,_,rfl,pH Jb s1,fun e he=>?_];rw[yk hzl];have s2:aM H1 (bO H1 e `bU'):=aM.new he;have he1:bO H1 e `bU' e=some `bU':=aq;generalize bO H1 e `bU'=H2 at*
   refine `mk';refine#[x,dx,nV c,.ref p,.ref e,nV (at_+1+n+1+z),rfl,aq,rfl,?_];rw[qA];have sy:aM H2 (bO (bO H2 dx `i3') x (.ins CC dx (we (nV c) `dR' (.ref e) (nV (at_+1+n+1+z))))):=aM.put (aM.new Wz) hx;exact q _ x (s1.trans (s2.trans sy)) (s1.free (s2.free hx)) #[dx,p,e,aq,sy _ _ (s2 _ _ CP),sy _ _ he1]
end
def SL {l:List Int} (h:l.all natural=true):∀y∈nats l,y<4294967296:=fun y hy=>by
 obtain⟨z,hz,rfl⟩:=aV.mp hy;have:=eY.mp h z hz;unfold natural at this;simp only[aX,bK] at this;omega
def y8 {c t:Nat} {gs ls:List Nat} {x:Wqarao.Call} {g:Wqarao.Opened->Answer} (h1:21<=c) (h2:c<=28) (h3:c=22->0<gs.length) (h4:c=27->1<gs.length/\gs.getD 0 0<2^63) (e:∀s,Wqarao.step s x=(s,ofKind s t g)) (hg:∀kd,g `ev'=iW c gs ls kd):su c (t::gs) ls x:=
 .ab h1 h2 h3 h4 (fun s h=>by rw[e];unfold ofKind;rw[h];rfl) fun s kd h=>by rw[e];unfold ofKind;rw[h];exact dH _ (hg kd)
abbrev aae (c:WqaraoNeutral.Call):Prop:=∃(cN:Nat) (gi:List Int) (rest:List (List Int)) (x:Wqarao.Call),c=((cN:Int)::gi)::rest/\callOf c=some x/\su cN (nats gi) (nats (rest.headD [])) x/\∀y∈nats (rest.headD []),y<4294967296
def U5:∀y∈nats ((([]:List (List Int))).headD []),y<4294967296:=fun y hy=>(by cases hy)
def Sb {i:Int} (h:long i=true):i.toNat<2^63:=by
 unfold long at h;simp only[aX,bK] at h;have:(2:Nat)^63=9223372036854775808:=by decide
 omega
def vp {l:List Int}:(nats l).length=l.length:=ae ..
def aaE {α:Type} {l:List α} (h:l.length=1):∃x0,l=[x0]:=match l,h with
 | [x0],_=>#[x0,rfl]
def ab8 {α:Type} {l:List α} (h:l.length=2):∃x0 x1,l=[x0,x1]:=match l,h with
 | [x0,x1],_=>#[x0,x1,rfl]
def ab2 {α:Type} {l:List α} (h:l.length=3):∃x0 x1 x2,l=[x0,x1,x2]:=match l,h with
 | [x0,x1,x2],_=>#[x0,x1,x2,rfl]
def acb {α:Type} {l:List α} (h:l.length=4):∃x0 x1 x2 x3,l=[x0,x1,x2,x3]:=match l,h with
 | [x0,x1,x2,x3],_=>#[x0,x1,x2,x3,rfl]
def aco {α:Type} {l:List α} (h:l.length=5):∃x0 x1 x2 x3 x4,l=[x0,x1,x2,x3,x4]:=match l,h with
 | [x0,x1,x2,x3,x4],_=>#[x0,x1,x2,x3,x4,rfl]
def EF {p:Int} {n k:Nat} (h:shape p=some (n,k)):1<=p/\p<=31:=by
 by_cases e:1<=p/\p<=31
 ·exact e
 ·exfalso;unfold shape at h
  repeat rw[au `mt] at h
  cases h
def AH {p:Int} {gi:List Int} {rest:List (List Int)} {n k:Nat} (h:shape p=some (n,k)) (hg:gi.length=n) (hr:rest.length=k):k<=1/\PyWqarao.whole ((p::gi)::rest)=(p::gi)::rest/\(asked1 ((p::gi)::rest)=true->aae ((p::gi)::rest)):=by
 have hp:=EF h;obtain⟨m,rfl⟩:∃m:Nat,p=m:=#[p.toNat,by omega]
 have hm:m=1\/m=2\/m=3\/m=4\/m=5\/m=6\/m=7\/m=8\/m=9\/m=10\/m=11\/m=12\/m=13\/m=14\/m=15\/m=16\/m=17\/m=18\/m=19\/m=20\/m=21\/m=22\/m=23\/m=24\/m=25\/m=26\/m=27\/m=28\/m=29\/m=30\/m=31:=by omega
 clear hp;rcases hm with rfl|rfl|rfl|rfl|rfl|rfl|rfl|rfl|rfl|rfl|rfl|rfl|rfl|rfl|rfl|rfl|rfl|rfl|rfl|rfl|rfl|rfl|rfl|rfl|rfl|rfl|rfl|rfl|rfl|rfl|rfl<;>cases(h)<;>(first|obtain⟨x0,rfl⟩:=aaE hg|obtain⟨x0,x1,rfl⟩:=ab8 hg|obtain⟨x0,x1,x2,rfl⟩:=ab2 hg|obtain⟨x0,x1,x2,x3,rfl⟩:=acb hg|obtain⟨x0,x1,x2,x3,x4,rfl⟩:=aco hg)<;>(first|obtain rfl:=bV.mp hr|obtain⟨y,rfl⟩:=aaE hr)<;>refine#[by decide,rfl,fun a=>#[_,_,_,_,rfl,rfl,?_,?_]]<;>first|exact U5|exact SL (cW.mp a).2|exact .mk `KK `KK rfl|exact .mk `KK `KK (by rw[<-vp];rfl)|exact .jn `KK `KK|exact .bg|exact .fr|exact .al|exact .dr|exact y8 `KK `KK (fun z=>absurd z `KK) (fun z=>absurd z `KK) `aS' fun _=>rfl|exact y8 `KK `KK (fun _=>jQ _) (fun z=>absurd z `KK) `aS' fun _=>rfl|exact y8 `KK `KK (fun z=>absurd z `KK) (fun _=>#[qO (jQ _),Sb (cW.mp (cW.mp a).2).1]) `aS' fun _=>rfl
def Js (L:Nat):∀(n:Nat) (f:dh->Bool) (k:Nat),(js L n f k).length<=n
 |0,f,k=>ax _
 |n+1,f,k=>by
  unfold js
  split
  ·exact aN _
  ·rename_i z _;exact nq (Js L n _ _)
def IY {kd:aT} {k:Nat} {r:dh} (h:(Wqarao.opened kd).row k=some r):r.length<=kd.len:=by
 rw[Aj] at h
 split at h
 ·cases h;exact Js _ _ _ _
 ·cases h
def DJ {kd:aT} {k:Nat} (h:kd.len<=20):(rowTold ((Wqarao.opened kd).row k)).nums.length<=20:=by
 cases e:(Wqarao.opened kd).row k with
 |none=>exact aN _
 |some r=>exact aU (IY e) h
def JE (m:Nat):∀l:List dh,(∀r∈l,r.length<=m)->(l.flatMap fun(r:dh)=>r.length::r).length<=l.length*(m+1)
 | [],_=>aN _
 |r::l,h=>by
  rw[mG,aE,aF,aF,oJ];have:=JE m l fun r hr=>h r (aK _ hr);have:=h r aI;omega
def Qw {c:Nat} {gs ls:List Nat} {kd:aT} (h:kd.len<=20):(iW c gs ls kd).nums.length<=420:=by
 unfold iW
 split
 ·exact(by decide:4<=420)
 split
 ·exact aU (DJ h) `KK
 split
 ·unfold rO
  split
  ·exact aN _
  ·rename_i hm;refine aU (JE 20 _ fun r hr=>?_) ?_
   ·obtain⟨k,_,hk⟩:=iP.mp hr;exact aU (IY hk) h
   ·have:=List.length_filterMap_le (fun k:Nat=>(Wqarao.opened kd).row (gs.getD 0 0+k)) (List.range (gs.getD 1 0));rw[bv] at this;omega
 split
 ·unfold o0
  split
  ·exact aN _
  ·split
   ·exact aN _
   ·rename_i x _;show(x.2::_).length<=420;rw[aF];cases e:(Wqarao.opened kd).row x.1 with
    |none=>exact `hP'
    |some r=>
     have:=IY e;show r.length+1<=420;omega
 split
 ·unfold uV
  split
  ·exact aN _
  ·exact `lP'
 split
 ·exact aN _
 split
 ·unfold tL
  split
  ·exact `hP'
  ·exact `hP'
 split
 ·unfold Wqarao.Opened.next;exact aU (DJ h) `KK
 ·unfold Wqarao.Opened.previous;show(rowTold (if _=0 then none else _)).nums.length<=420
  split
  ·exact aN _
  ·exact aU (DJ h) `KK
def AK {s:eh} {t:Nat} {kd:aT}:(opens s t kd).2.nums.length<=420:=by
 unfold opens;show(if _<=_ then _ else _:Wqarao.Result).2.nums.length<=420
 split
 ·exact aN _
 ·exact `lP'
def SF {c:Nat} {gs ls:List Nat} {x:Wqarao.Call} {s:eh} (h:su c gs ls x) (hs:∀t o,s.at_ t=some o->∃kd,o=Wqarao.opened kd/\kd.len<=20):(Wqarao.step s x).2.nums.length<=420:=by
 cases h with
 |mk h1 h2 hk=>
  show 33
  split
  ·exact aN _
  ·exact AK
 |jn h1 h2=>
  show 33
  split
  ·exact aN _
  ·split
   ·split
    ·exact aN _
    ·exact AK
   ·exact aN _
 |bg=>
  show 33
  split
  ·exact aN _
  ·split
   ·exact aN _
   ·split
    ·exact aN _
    ·exact AK
 | @ab c t gs ls x h1 h2 h3 h4 h5 h6=>
  cases e:s.at_ t with
  |none=>
   rw[h5 s e];exact aN _
  |some o=>
   obtain⟨kd,rfl,hl⟩:=hs t o e;rw[h6 s kd e];exact Qw hl
 |fr=>
  unfold Wqarao.step;show(if _ then _ else _:Answer).nums.length<=420
  split
  ·exact aN _
  ·split
   ·exact aN _
   ·exact `lP'
 | @al a b ls=>
  unfold Wqarao.step;show(ofKind _ _ _).nums.length<=420;unfold ofKind
  split
  ·exact aN _
  ·rename_i x hx;obtain⟨ka,rfl,hl⟩:=hs _ _ hx
   split
   ·exact aN _
   ·rename_i y hy;obtain⟨kb,rfl,sJ⟩:=hs _ _ hy;show(if ka.len≠kb.len then _ else _:Answer).nums.length<=420
    split
    ·exact aN _
    ·rename_i lH;show(match Wqarao.apart ka kb with
      |none=>tells [1]
      |some r=>tells (0::r)).nums.length<=420
     split
     ·exact `hP'
     ·rename_i r hr;have:=Ct hr (ku.mp lH);show(0::r).length<=420;rw[aF];have hl:ka.len<=20:=hl;have this:r.length<=ka.len:=this;omega
 |dr=>
  unfold Wqarao.step;dsimp only
  split
  ·exact aN _
  ·exact aN _
abbrev Av:du:=my 79
def acA (sp:Sp):Sp:=fun vs H Q E=>∃(ab:ak) (xs:List V) (H0:Hp),H=bO H0 ab `bh'/\H0 ab=Option.none/\sp vs H0 (fun v H'=>H' ab=Option.none->Q v (bO H' ab `bh')) E
def F4 {P:bN} {w:cV} {K:ai} {mg:Str->Option aA} {base:cZ} {k:Nat} {f:ak} {fd:aH} {ps:List Str} {sp:Sp} (F:bT P w K mg base dj k f fd ps sp):bT P w K mg base dj k f fd ps (acA sp):=by
 refine#[fun vs H Q E ⟨ab,xs,H0,_,_,h⟩=>F.len _ _ _ _ h,fun A outer s H args us vs Q E hr e0 hb hv hs=>?_];obtain⟨ab,xs,H0,rfl,hn,h⟩:=hs;have ne:∀{b:ak},bO H0 ab `bh' b=Option.none->b≠ab/\H0 b=Option.none:=fun{b} e=>by
  by_cases z:b=ab
  ·rw[z,aq] at e;cases e
  ·rw[aZ z] at e;exact#[z,e]
 have at_:∀{b:ak} {o:HO},H0 b=some o->b≠ab:=fun{b o} e z=>by
  rw[z,hn] at e;cases e
 have rq:∀{b:ak} {o:HO},bO H0 ab `bh' b=some o->o≠ .lst xs->H0 b=some o:=fun{b o} e z=>by
  by_cases y:b=ab
  ·rw[y,aq] at e;exact absurd (aP e).symm z
  ·rw[aZ y] at e;exact e
 have abU:sG P w H0 s.heap:=fun a o e=>(e0.hok a o (by rw[aZ (at_ e)];exact e)).stay (fun b u _ g=>g) (fun b z=>rq z `eX') fun b ys z=>rq z `eX';have e1:Bv P w K mg base A outer s H0:=#[e0.frames,e0.mod,fun b o e=>#[(e0.bs b o e).1,(ne (e0.bs b o e).2).2],e0.bsz,e0.funs,fun b hb=>(ne (e0.frf b hb)).2,abU,e0.bare]
 refine mB (F.run A outer s H0 args us vs _ E hr e1 hb hv h) fun r s' x=>?_;cases r with
 |error e=>exact x
 |ok fl=>
  cases fl with
  |next=>exact x
  |brk=>exact x
  |cont=>exact x
  |ret u=>
   obtain⟨v,H',os,bare,un,NJ,rv,q⟩:=x;obtain⟨hz,its,n,WD,CN⟩:=e0.hok ab _ aq;have Xa:H' ab=Option.none:=un.free ab _ CN hn (fun z=>`eg');have QF:ab∉Ig outer:=fun z=>by
    have:=e0.frf ab z;rw[aq] at this;cases this
   have Zg:=un.keep ab _ CN hn QF (fun z=>`eg');have NH:∀{b:ak} {o:HO},H' b=some o->b≠ab:=fun{b o} e z=>by
    rw[z,Xa] at e;cases e
   refine#[v,bO H' ab `bh',os,bare,#[fun b o e n1 h1 h2=>un.keep b o e (ne n1).2 h1 h2,fun b o e n1 h1 h2=>un.slot b o e (ne n1).2 h1 h2,fun b o e n1 h2=>?_,un.there,fun b ys e=>?_,fun b o u e=>?_,fun b ps e=>?_],fun b o e=>?_,rv,q Xa]
   ·rw[aZ (ne n1).1];exact un.free b o e (ne n1).2 h2
   ·have z:=un.tups b ys (rq e `eX');rw[aZ (NH z)];exact z
   ·have z:=un.frzs b o u (rq e `eX');rw[aZ (NH z)];exact z
   ·obtain⟨more,z⟩:=un.tbls b ps (rq e `eX');exact#[more,by rw[aZ (NH z)];exact z]
   ·by_cases y:b=ab
    ·subst y;show 167;exact#[hz,its,n,WD,Zg]
    ·rw[aZ y] at e;exact(NJ b o e).stay (fun b u _ g=>g) (fun b z=>by rw[aZ (NH z)];exact z) fun b ys z=>by rw[aZ (NH z)];exact z
def R6 {p:Int} {n k:Nat} (h:shape p=some (n,k)):k<=1:=(AH (gi:=replicate n 0) (rest:=replicate k []) h bo bo).1
def C0 {l:List Int} {i:Nat} {z:Int} (h:l[i]? =some z):(nats l)[i]? =some z.toNat:=by
 unfold nats;rw[aR,h];rfl
def tW {α:Type} {l:List α} {i:Nat} {z:α} {r:List α} (h:l.drop i=z::r):l[i]? =some z/\r=l.drop (i+1)/\l.length=i+1+r.length:=by
 have h1:l[i]? =some z:=by
  have:=l6 (xs:=l) (i:=i) (j:=0);rw[h] at this;exact this.symm
 have h2:r=l.drop (i+1):=by rw[<-mI (i:=1) (j:=i),h];rfl
 refine#[h1,h2,?_];have:=dH List.length h;rw[b6,aF] at this;omega
def Mw {l:List Int} {at_:Nat} {p:Int} {r:List Int} (e:l.drop at_=p::r) {c:List (List Int)} {t:List Int} (hc:PyFlat.call shape (p::r)=some (c,t)):PyWqarao.whole c=c/\(asked1 c=true->
 ∃cN gs ls BH x,T9 (nats l) at_ cN gs ls BH/\t=l.drop BH/\at_<BH/\BH<=l.length/\callOf c=some x/\su cN gs ls x/\ls.length<=l.length/\∀y∈ls,y<4294967296):=by
 obtain⟨e1,e2,e3⟩:=tW e;have hc:(match shape p with
  |none=>none
  |some (n,k)=>if r.length<n then none else match rows k (r.drop n) with
   |none=>none
   |some (xs,t)=>some ((p::r.take n)::xs,t))=some (c,t):=hc
 cases hs:shape p with
 |none=>
  rw[hs] at hc;cases hc
 |some nk=>
  obtain⟨n,k⟩:=nk;rw[hs] at hc;have hc:(if r.length<n then none else match rows k (r.drop n) with
   |none=>none
   |some (xs,t)=>some ((p::r.take n)::xs,t))=some (c,t):=hc
  split at hc
  ·cases hc
  ·rename_i hn;have hg:(r.take n).length=n:=by rw[be];omega
   have hk1:=R6 hs;have KO:(nats l).length=l.length:=vp
   match k,hk1,hs,hc with
   |0,_,hs,hc=>
    have hc:=hc;obtain⟨rfl,rfl⟩:=Prod.mk.inj (aP hc);obtain⟨_,w1,w2⟩:=AH (gi:=r.take n) (rest:=[]) hs hg rfl;show 62;refine#[cN,_,_,at_+1+n,x,#[n,0,C0 e1,hs,by omega,?_,.inl #[rfl,rfl,rfl]],by rw[e2,mI],by omega,by omega,Nd,hx,aN _,hb];rw[e2];unfold nats;rw[lM,lN]
   |1,_,hs,hc=>
    cases hr:r.drop n with
    |nil=>
     rw[hr] at hc;cases hc
    |cons z r'=>
     rw[hr] at hc;obtain⟨f1,f2,f3⟩:=tW hr;have hc:(match(match(if 0<=z/\z.toNat<=r'.length then some (r'.take z.toNat,r'.drop z.toNat) else none) with
      |none=>none
      |some (x,s)=>some ([x],s):Option (List (List Int)×List Int)) with
      |none=>none
      |some (xs,t)=>some ((p::r.take n)::xs,t))=some (c,t):=hc
     split at hc
     ·cases hc
     ·rename_i xs t' QV
      split at QV
      ·cases QV
      ·rename_i y s hy
       split at hy
       ·rename_i hz;cases hy;cases QV;cases hc;obtain⟨_,w1,w2⟩:=AH (gi:=r.take n) (rest:=[r'.take z.toNat]) hs hg rfl;show 62;have hzi:l[at_+1+n]? =some z:=by
         rw[e2,l6] at f1;exact f1
        have WX:r'=l.drop (at_+1+n+1):=by rw[f2,e2,mI];rfl
        refine#[cN,_,_,at_+1+n+1+z.toNat,x,#[n,1,C0 e1,hs,by omega,?_,.inr #[rfl,z.toNat,C0 hzi,by omega,?_,rfl]],by rw[WX,mI],by omega,by omega,Nd,hx,?_,hb]
        ·rw[e2];unfold nats;rw[lM,lN]
        ·rw[WX];unfold nats;rw[<-lN,<-lM];rfl
        ·show(nats (r'.take z.toNat)).length<=_;rw[vp,be];omega
       ·cases hy
def NV {l:List Int} (h:∀z∈l,0<=z):l.map V.int=(nats l).map nV:=by
 unfold nats;rw[eK];refine dE fun z hz=>?_;show V.int z=V.int (z.toNat:Int);rw[Int.toNat_of_nonneg (h z hz)]
def OP (t:Nat):Wqarao.Room.at_ WqaraoNeutral.start t=none:=by
 unfold Wqarao.Room.at_ WqaraoNeutral.start Wqarao.start;rw[gh]
 split<;>rfl
def Ua (K:ai) (C CR:ak) (TB:qI) (l:List Int) (ca rm dk ab:ak) (m:Nat) (σ:L2.St) (H':Hp):Prop:=∃(at_ f N:Nat) (cs:List (List (List Int))) (s:eh) (Es:List Int) (H0:Hp) (v4 v5:Option V),m=l.length - at_/\σ=[some (.ref ca),some (.ref rm),some (.ref ab),some (nV at_),v4,v5]/\H'=bO H0 ab `jN'/\H0 ab=Option.none/\at_<=l.length/\
 PyFlat.calls shape f (l.drop at_)=some cs/\(∀c∈cs,asked1 `fO'=true)/\jL C CR H0 rm dk N s/\N+cs.length<=40/\Es.length<=N*422/\answers l=Es++told (played WqaraoNeutral.step s (cs.map PyWqarao.whole))/\eQ TB H0/\SqL K H0 ca ((nats l).map nV)
section
variable {C CR CC:ak} {TB:qI}
def xk (K:ai) (TB:qI):Sp:=fun vs H Q _=>∃(ca:ak) (l:List Int),vs=[.ref ca]/\SqL K H ca (l.map V.int)/\(∀z∈l,0<=z)/\l.length<=16000/\answers_asked l=true/\eQ TB H/\∀(H':Hp) (r:ak),H' r=some (.lst ((answers l).map V.int))->Q `bd' H'
abbrev ZG:List Str:=["calls","room","answered","at","call","answer"]
def Ab:bY ZG `mX' (aw Av):=`dl
structure Z0 (P:bN) (w:cV) (K:ai) (mg:Str->Option aA) (C CR CC:ak) (TB:qI):Prop where
 r:Rms P w K mg C CR CC TB
 fo:∃fa kvs,Oh P w K mg fa kvs
 gC:mg "Call"=some (.ref CC)
 ci:∃fI fdI,Mk K CC fI/\fV K fdI Oy []/\nv K "__init__" "Call.__init__" qS fI fdI
 gR:mg "Room"=some (.ref CR)
 ri:∃fI fdI,Mk K CR fI/\fV K fdI ["self"] []/\nv K "__init__" "Room.__init__" tZ fI fdI
 rd:∃f fd,ub K mg "read_call" J6 f fd `ln'
 an:∃f fd,QR K CR "answer" "Room.answer" yo f fd `fY'
def HU {f:ak} {fd:aH} (F:nv K "answers" "answers" Av f fd) (A:Z0 P w K mg C CR CC TB):bT P w K mg base dj 11 f fd `mX' (xk K TB):=by
 refine F.ok Ab `ST (fun cdv Ar outer sh H vs Q E hr h=>?_)
 ·obtain⟨ca,l,rfl,_⟩:=h;rfl
 ·obtain⟨ca,l,rfl,Jb,hl0,acP,xR,sv,q⟩:=h;rw[NV hl0] at Jb;obtain⟨fa,kvs,FO⟩:=A.fo;obtain⟨fCI,dCI,MkC,bCI,FCI⟩:=A.ci;obtain⟨fRI,dRI,MkR,bRI,FRI⟩:=A.ri;obtain⟨fRd,dRd,GR⟩:=A.rd;obtain⟨fAn,dAn,MA⟩:=A.an;have RC:=A.r.rc;have CL:=A.r.cc;have T:=A.r.t;refine⟨_,am (`oo' Ab.nd rfl `Cl (O1 (dvs:=[]) (ds:=[]) (CX:=dj) (E:=E0) MkR (Fp (P:=P) (w:=w) (base:=base) FRI RC) (hr.mono `KK) `IO A.gR bRI .nil b9))
   (am (`n1' Ab.nd rfl `Cl `l6')
   (am (`n2' Ab.nd rfl `Cl aC)
   (am (tK cD (bb (v0 (pv 3) (dq eu `IO T.nLen cY `aM')))
    (am (`n9' Ab.nd rfl `Cl (`nU' (F4 (Sa (P:=P) (w:=w) (base:=base) GR.fn FO CL A.gC MkC bCI FCI)) (hr.mono `KK) `IO GR.g GR.k GR.b .nil b9 (aa (pv 0) `aY')))
    (am (`n7' Ab.nd rfl `Cl (`nZ' (pv 1) RC.cl MA.m (F4 (K3 (P:=P) (w:=w) (base:=base) MA.fn A.r)) hr MA.b .nil b9 `cO'))
    (am (gZ (nZ bu bX bW gN (pv 2) (aa (dq eu `IO T.nLen cY `cP') aB)))
    (am (gZ (nZ bu PySem.F.slot_list_extend PySem.F.type_list_extend Ce (pv 2) `cP'))
    (aG (`n2' Ab.nd rfl `Cl (bq (pv 4) rfl))))))))
   (aG (aY (pv 2)))))),?_⟩
  intro rm lC qH Xt lH;refine#[rm,lC,rfl,aq,fun dk px=>#[rfl,?_]];have sx:aM H `iv':=aM.put (aM.new Xt) qH;have XD:dk≠rm:=fun z=>by
   rw[z,aq] at px;cases px
  have hH1:bO (bO `iv' dk (.dK [])) rm `aO'=bO `bN' rm `aO':=funext fun b=>by
   by_cases z:b=rm
   ·rw[z,aq,aq]
   ·rw[aZ z,aZ z];by_cases y:b=dk
    ·rw[y,aq,aq]
    ·rw[aZ y,aZ y,aZ z]
  rw[hH1];have aaJ:H dk=Option.none:=sx.free px;have aaY:dk≠lC:=fun z=>by
   rw[z,aZ lH,aq] at px;cases px
  have UD:bO H lC (.own rm) dk=Option.none:=by rw[aZ aaY];exact aaJ
  have UA:bO (bO H lC (.own rm)) dk (.dK []) rm=Option.none:=by rw[aZ (je XD),aZ (je lH)];exact qH
  have s1:aM H (bO `bN' rm `aO'):=((aM.new Xt).trans (aM.new UD)).trans (aM.new UA);have abB:bO `bN' rm `aO' dk=some (.dK []):=by rw[aZ XD,aq]
  have abf:bO `bN' rm `aO' rm=some `aO':=aq;generalize bO `bN' rm `aO'=H1 at*
  have WW:jL C CR H1 rm dk 0 WqaraoNeutral.start:=#[lC,[],abf,abB,ax _,rfl,fun t=>#[fun _=>Fh,fun o z=>by rw[OP] at z;cases z]]
  refine#[aN _,fun ab K1=>?_];unfold answers_asked PyWqarao.calls at xR;cases tN:PyFlat.calls shape l.length l with
  |none=>
   rw[tN] at xR;cases xR
  |some cs=>
  rw[tN] at xR;have xR:=xR;obtain⟨UP,xR⟩:=cW.mp xR;have UP:(cs.map PyWqarao.whole).length<=40:=af UP;rw[ae] at UP;unfold WqaraoNeutral.asked at xR;obtain⟨hall,_⟩:=cW.mp xR;have hall:∀c∈cs,asked1 `fO'=true:=fun c hc=>eY.mp hall _ (aV.mpr #[c,hc,rfl]);have Ri:answers l=[]++told (played WqaraoNeutral.step WqaraoNeutral.start (cs.map PyWqarao.whole)):=by
   unfold answers PyWqarao.calls;rw[tN];rfl
  refine#[Ua K C CR TB l ca rm dk ab,#[_,0,l.length,0,cs,WqaraoNeutral.start,[],H1,none,none,rfl,rfl,rfl,K1,aN _,tN,hall,WW,by omega,aN _,Ri,sv.same s1,pH Jb s1],?_];rintro m σ H' ⟨at_,f,N,cs,s,Es,H0,v4,v5,rfl,rfl,rfl,Xf,lI,tN,hall,hR,hN,acZ,Ri,abT,UR⟩;refine#[_,rfl,_,rfl,ca,_,rfl,.inl (pH UR (aM.new Xf)),(at_:Int),(l.length:Int),rfl,by rw[ae,vp],_,rfl,az `A' fun e=>?_]
  ·have e:=af e;have e:at_<l.length:=ji.mp e;obtain⟨p,r,hd⟩:∃p r,l.drop at_=p::r:=#[_,_,eJ e]
   rw[hd] at tN;obtain⟨f,rfl⟩:∃f',f=f'+1:=by
    cases f with
    |zero=>cases tN
    |succ f=>exact#[f,rfl]
   have tN:(match PyFlat.call shape (p::r) with
    |none=>none
    |some (c,t)=>match PyFlat.calls shape f t with
     |none=>none
     |some cs=>some (c::cs))=some cs:=tN
   cases oi:PyFlat.call shape (p::r) with
   |none=>
    rw[oi] at tN;cases tN
   |some ct=>
   obtain⟨c,t⟩:=ct;rw[oi] at tN;have tN:(match PyFlat.calls shape f t with
    |none=>none
    |some cs=>some (c::cs))=some cs:=tN
   cases hct:PyFlat.calls shape f t with
   |none=>
    rw[hct] at tN;cases tN
   |some cs'=>
   rw[hct] at tN;obtain rfl:c::cs'=cs:=aP tN;obtain⟨hwh,Wt⟩:=Mw hd oi;have TJ:=hall c aI;rw[hwh] at TJ;obtain⟨cN,gs,ls,BH,x,WI,rfl,jB,Ew,Xn,hx,Rk,hlw⟩:=Wt TJ;have big:sizeLine=16777216:=mq;rw[aF] at hN;refine#[Ua K C CR TB l ca rm dk ab (l.length - BH),fun σ' Rn z=>#[_,by omega,z],?_];refine#[_,rfl,_,rfl,ab,_,H0,rfl,Xf,ca,_,at_,cN,gs,ls,BH,rfl,UR,WI,fun H1 cl s1 acW Xe XM=>?_];have WW:=hR.same s1;have KS:=abT.same s1;have abH:=pH UR s1;obtain⟨abu,acQ,UA,UD,_⟩:=id WW;have sa:aM H1 (bO H1 ab `jN'):=aM.new XM;refine#[_,rfl,rm,abu,_,rfl,sa _ _ UA,rfl,_,rfl,ab,_,H1,rfl,XM,rm,dk,cl,N,cN,gs,ls,x,s,rfl,WW,by omega,Xe.at,hx,by omega,hlw,KS,fun H2 la k2 t2 acU Q4 UK NI=>?_];have kk:=k2.get KS UD;have aa2:SqL K H2 ca ((nats l).map nV):=by
    rcases abH with(y| ⟨o,y⟩)|y
    ·exact .inl (.inl (kk _ _ y `ay' `ay'))
    ·exact .inl (.inr #[o,kk _ _ y `ay' `ay'])
    ·exact .inr y
   obtain⟨u5,ag,al,abx,_⟩:=Xe;have abv:=kk _ _ abx `ay' `ay';have fY:(Wqarao.step s x).2.nums.length<=420:=SF hx fun t o ho=>by
    obtain⟨_,kvs,_,_,_,_,yE⟩:=WW;obtain⟨r,kd,e1,_,e3,_⟩:=(yE t).2 o ho;exact#[kd,e1,e3.1.len]
   have uu:WqaraoNeutral.step s `fO'=((Wqarao.step s x).1,numbers (Wqarao.step s x).2):=by
    rw[hwh];unfold WqaraoNeutral.step;rw[Xn]
   have KO:(numbers (Wqarao.step s x).2).length<=421:=by
    unfold numbers;rw[aF,ae];omega
   have XS:answers l=(Es++((((numbers (Wqarao.step s x).2).length:Nat):Int)::numbers (Wqarao.step s x).2))++told (played WqaraoNeutral.step (Wqarao.step s x).1 (cs'.map PyWqarao.whole)):=by
    rw[Ri,cI]
    congr 1
    show((WqaraoNeutral.step s `fO').2::played WqaraoNeutral.step (WqaraoNeutral.step s `fO').1 (cs'.map PyWqarao.whole)).flatMap _=_;rw[mG,uu];rfl
   have hlV:(Do (Wqarao.step s x).2).length=(numbers (Wqarao.step s x).2).length:=ae ..;have acI:la≠ab:=fun z=>by
    rw[z,NI] at Q4;cases Q4
   have hol:(Es.map V.int).length=Es.length:=ae ..;have sb:aM H2 (bO H2 ab `jN'):=aM.new NI;refine#[_,rfl,.inl #[rfl,_,SqL.of aq],_,rfl,la,_,rfl,.inl (SqL.of (sb _ _ Q4)),ab,_,_,rfl,rfl,aq,by omega,?_];rw[qA];have sc:aM H2 (bO H2 ab (.lst `fN')):=aM.new NI;refine#[_,rfl,.inl #[rfl,_,SqL.of aq],_,rfl,ab,la,_,_,rfl,rfl,aq,sc _ _ Q4,by rw[aE,cz];omega,?_];rw[qA];have sd:aM H2 (bO H2 ab (.lst (`fN'++Do (Wqarao.step s x).2))):=aM.new NI;refine#[_,rfl,cl,CC,u5,_,_,rfl,sd _ _ abv,CL.cl,CL.f4,rfl,?_];refine#[BH,f,N+1,cs',(Wqarao.step s x).1,_,H2,_,_,rfl,rfl,?_,NI,Ew,hct,fun c hc=>hall c (aK _ hc),UK,by omega,?_,XS,t2,aa2]
   ·congr 2
    rw[bj,cI,hlV];rfl
   ·rw[aE,aF];omega
  ·have e:=aj e;have e:¬at_<l.length:=fun z=>e (ji.mpr z);rw[iE `mt] at tN;obtain rfl:cs=[]:=by
    cases f with
    |zero=>exact(aP tN).symm
    |succ f=>exact(aP tN).symm
   refine#[_,rfl,q _ ab ?_];rw[aq,Ri];show _=some (HO.lst ((Es++[]).map V.int));rw[bU]
end
def gA (K:ai) (x:Str):ak:=match nsIn K mainGlobals x with
 |some (some `bA')=>f
 |_=>0
def gT (K:ai) (x:Str):Tok:=match nsIn K mainGlobals x with
 |some (some (.int _ t))=>t
 |_=>0
def mA (K:ai) (C:ak) (x:Str):ak:=match PySem.W.findIn K `fM' x with
 |some (some `bA')=>f
 |_=>0
def gO (K:ai) (f:ak):Obj:=(K.lookup f).getD default
def gD (K:ai) (f:ak):aH:=match(gO K f).data with
 | .func d=>d
 |_=>default
def gV (K:ai) (c:ak):Array aA:=match(gO K c).data with
 | .fields vs=>vs
 |_=> #[]
def gE (K:ai) (c:ak):Array nu:=match(gO K c).data with
 | .dict es _=>es
 |_=> #[]
def gP (K:ai) (c:ak):Nat:=match(gO K c).data with
 | .dict _ ep=>ep
 |_=>0
def cA (K:ai) (x:Str):ak:=match(gD K `hw').code with
 | .ref c=>c
 |_=>0
def tA (K:ai) (x:Str):ak:=match((gV K `ib')[11]? :Option aA) with
 |some (.ref c)=>c
 |_=>0
abbrev fC (x q:Str) (st:du) (d:aH) (cv:aA):aH:=PySem.W.fnOf x q (ue st) (oZ st) `l3' .none d.kwdefaults d.doc d.pyModule d.annotations cv d.closureTuple
structure FK (K:ai) (x q:Str) (st:du) (f:ak) (cv:aA):Prop where
 l:K.lookup f=some #[(gO K f).cls,(gO K f).dict,.func (fC x q st (gD K f) cv),(gO K f).slots]
 c:PySem.W.codeIn K cv q=true
 k:keepIn K `bA'=true
structure GK (K:ai) (x:Str):Prop where
 g:nsIn K mainGlobals x=some (some (.ref `hw'))
structure TK (K:ai) (x:Str) (st:du):Prop extends GK K x where
 f:FK K x x st `hw' (gD K `hw').code
def Ue (vs:Array aA):Bool:=match vs.getD 18 .none,vs.getD 7 .none,vs.getD 9 .none,vs.getD 10 .none with
 | .str _ _,.int _ _,.bool _,.int _ _=>true
 |_,_,_,_=>false
structure TT (K:ai) (x:Str) (st:du):Prop extends GK K x where
 f:FK K x x st `hw' (.ref `ib')
 l:K.lookup `ib'=some (gO K `ib')
 c:(gO K `ib').cls= .type "code"
 d:(gO K `ib').data= .fields (gV K `ib')
 t:(gV K `ib')[11]? =some (.ref (tA K x))
 b:Ue (gV K `ib')=true
 n:(cA K x==tA K x)=false
structure MK (K:ai) (C:ak) (x q:Str) (st:du):Prop where
 m:SG K C x (mA K C x)
 f:FK K x q st (mA K C x) (gD K (mA K C x)).code
structure IK (K:ai) (C:ak) (q:Str) (st:du):Prop where
 m:Mk K C `le'
 f:FK K "__init__" q st `le' (gD K `le').code
abbrev NK (K:ai) (x:Str) (i:Int):Prop:=nsIn K mainGlobals x=some (some (.int i (gT K x)))
abbrev OK (K:ai) (x:Str):Prop:=nsIn K mainGlobals x=some none
structure BK (K:ai):Prop extends GK K "__builtins__" where
 n:(gA K "__builtins__"==builtinsNs)=false
 l:K.lookup `eF'=some (gO K `eF')
 c:(gO K `eF').cls= .type "module"
 d:(gO K `eF').dict=some builtinsNs
 t:(gO K `eF').data= .plain
section
variable {K:ai} {x q:Str} {st:du} {f C:ak} {cv:aA} {mg:Str->Option aA} {h:cZ}
def FK.fn (F:FK K x q st f cv):nv K x q st f (fC x q st (gD K f) cv):=#[#[_,_,_,_,_,_,_,_,_,rfl,F.l,F.c],F.k]
def GK.gm (G:GK K x) (X:K.In h) (N:h.Ns mainGlobals mg):mg x=some (.ref `hw'):=mg_of X N G.g
def TT.ck (F:TT K x st):Kb K `ib' (tA K x):=fun h X=>by
 have hb:=F.b;unfold Ue at hb
 split at hb
 ·rename_i a b c d e1 e2 e3 e4;refine#[_,_,_,_,_,_,_,_,_,X _ _ F.l,F.c,F.d,F.t,?_,e1,e2,e3,e4,fun z=>?_]
  ·rw[Array.getD_eq_getD_getElem?,F.t];rfl
  ·have:=F.n;rw[z] at this;simp at this
 ·cases hb
def TT.fn (F:TT K x st):ox K x x st `hw' `dY' `ib' (tA K x):=#[#[_,_,_,_,_,_,_,_,rfl,F.f.l,F.f.c],F.f.k,F.ck]
def BK.blt (B:BK K) (X:K.In h) (N:h.Ns mainGlobals mg):Pn K mg:=⟨_,_,B.toGK.gm X N,fun z=>by
 have:=B.n;rw[z] at this;simp at this,B.l,B.c,B.d,B.t⟩
end
def fmT (K:ai) (t n:Nat) (b:Bool):Bool:=match K.lookup t with
 |some o=>(match o.cls with| .type y=>y=="tuple"|_=>false)&&(match o.data with| .seq its _=>(match its.toList with| [.int i _,.bool d]=>decide (i=n)&&d==b|_=>false)|_=>false)
 |none=>false
def VL {K:ai} {t n:Nat} {b:Bool} (h:fmT K t n b=true) (H:Hp):iX K H t [nV n,.bl b]:=by
 unfold fmT at h
 split at h
 ·rename_i o l;obtain⟨h1,h2⟩:=cW.mp h
  split at h1
  ·rename_i y ey
   split at h2
   ·rename_i its m ed
    split at h2
    ·rename_i i tk d el;obtain⟨h3,h4⟩:=cW.mp h2;have h3:=af h3;have h4:=jC h4;have h1:=jC h1;subst h3 h4 h1;refine .inr #[o,its,m,l,ey,ed,?_,?_]
     ·rw[<-cU,el];show 2<=sizeLine;decide
     ·rw[el];exact .cons #[tk,rfl] (.cons rfl .nil)
    ·cases h2
   ·cases h2
  ·cases h1
 ·cases h
def fmE (K:ai) (e:nu) (f:Nat×Nat×Bool):Bool:=decide (e.hash=hashInt f.1)&&Value.isInt f.1 e.key&&(match e.val with| .ref t=>fmT K t f.2.1 f.2.2|_=>false)
def fmB (K:ai):List nu->List (Nat×Nat×Bool)->Bool
 | [],[]=>true
 |e::es,f::fs=>fmE K e f&&fmB K es fs
 |_,_=>false
def T8 {P:bN} {w:cV} {K:ai}:∀(es:List nu) (fs:List (Nat×Nat×Bool)),fmB K es fs=true->∃(kvs:List (nB×V)) (vs:List (nB×aA)),KV kvs vs/\Pairs `hA' es vs/\(∀e∈es,∃k,(ij P w).is k e.key=true/\e.hash=(ij P w).hash k)/\vs.map (·.1)=fs.map (fun f=>(Sum.inl (f.1:Int):nB))/\
 ∀c f,fs.find? (fun g=>decide (g.1=c))=some f->∃ft,iA kvs (Sum.inl (c:Int))=some (.ref ft)/\∀H,iX K H ft [nV f.2.1,.bl f.2.2]
 | [],[],_=>#[[],[],.nil,.nil,fun _ z=>`eg',rfl,fun _ _ z=>`eg']
 | [],_::_,h=>by cases h
 |_::_,[],h=>by cases h
 |e::es,f::fs,h=>by
  obtain⟨h1,h2⟩:=cW.mp (h);obtain⟨kvs,vs,a1,a2,a3,a4,a5⟩:=T8 es fs h2;obtain⟨h3,h5⟩:=cW.mp h1;obtain⟨h3,h4⟩:=cW.mp h3;have h3:=af h3
  split at h5
  ·rename_i t ev;refine#[(Sum.inl (f.1:Int),.ref t)::kvs,(Sum.inl (f.1:Int),.ref t)::vs,.cons `hI' a1,.cons h4 ev a2,fun e' he=>?_,by rw[bw,bw,a4],fun c f' hf=>?_]
   ·cases he with
    |head=>exact#[Sum.inl f.1,h4,h3]
    |tail _ he=>exact a3 e' he
   ·unfold iA;rw[jb] at hf⊢
    by_cases hc:f.1=c
    ·rw[bp hc] at hf;cases hf;rw[bp (show `iY' by rw[hc])];exact#[t,rfl,fun H=>VL h5 H]
    ·rw[bS hc] at hf;rw[bS (show ¬`iY' by intro z;injection z with z;omega)];exact a5 c f' hf
  ·cases h5
def fms:List (Nat×Nat×Bool):=(List.range 31).filterMap fun i=>(shape (i+1:Nat)).map fun s=>(i+1,s.1,decide (s.2=1))
def V5:∀i,i<32->fms.find? (fun g=>decide (g.1=i))=(shape (i:Int)).map fun s=>(i,s.1,decide (s.2=1)):=by decide+kernel
structure OF (K:ai) (a:ak):Prop where
 l:K.lookup a=some (gO K a)
 c:(gO K a).cls= .type "dict"
 i:(gO K a).dict=none
 s:(gO K a).slots= #[]
 d:(gO K a).data= .dict (gE K a) (gP K a)
 b:fmB K (gE K a).toList fms=true
def OF.forms {P:bN} {w:cV} {K:ai} {a:ak} {mg:Str->Option aA} (F:OF K a) (g:mg "FORMS"=some `bu'):∃fa kvs,Oh P w K mg fa kvs:=by
 obtain⟨kvs,vs,a1,a2,a3,a4,a5⟩:=T8 _ _ F.b;refine#[a,kvs,g,fun h X=>#[vs,a1,_,_,_,X _ _ F.l,#[F.c,F.i,F.s],F.d,fun e he=>a3 e (Array.mem_toList_iff.mpr he),a2,?_],fun c n k hs=>?_]
 ·rw[a4];decide+kernel
 ·obtain⟨h1,h2⟩:=EF hs;obtain⟨m,rfl⟩:∃m:Nat,c=m:=#[c.toNat,by omega]
  have:=V5 m `mt;rw[hs] at this;exact a5 m _ this
def uq (K:ai):qI:=[(tA K "words",t0),(tA K "choices",ph),(tA K "bags",xj),(tA K "orders",rp),(tA K "derangements",jO),(tA K "zigzags",pd),(tA K "parts",rV),(tA K "shares",pX),(tA K "groups",pK),(tA K "paths",rP),(tA K "automaton",kS),(tA K "extensions",lq),(tA K "walks",rG),(tA K "pairings",iS),(tA K "begins",qV),(tA K "then",wO),(tA K "side_by_side",oz),(tA K "both",xm),(tA K "either",qT),(tA K "less",uJ)]
def tbn:List Str:=["words","choices","bags","orders","derangements","zigzags","parts","shares","groups","paths","automaton","extensions","walks","pairings","begins","then","side_by_side","both","either","less"]
def tbc (K:ai):List (ak×ak):=tbn.map fun x=>(cA K x,tA K x)
def tbB (p:bN) (K:ai):Bool:=tbn.all fun x=>((recsOf p).find? fun e=>e.name==x).isSome&&PySem.W.tabIn K x==some (cA K x,tA K x)
def R0 {p:bN} {Jm:List Str} {aa3:ExcName->Option aA} {mg mb:Str->Option aA} {h:cZ} {K:ai} (T:Top p Jm aa3 mg mb h) (X:K.In h) (hb:tbB p K=true):TabsAt (tbc K) h:=fun q hq=>by
 obtain⟨x,hx,rfl⟩:=aV.mp hq;obtain⟨h1,h2⟩:=cW.mp (eY.mp hb x hx);obtain⟨d,hd⟩:=jr.mp h1;exact PySem.W.tab_of T X hd (jC h2)
structure V4 (K:ai):Prop where
 bk:BK K
 YY:OK K "sum"
 Yu:OK K "tuple"
 Y0:OK K "len"
 Yv:OK K "range"
 YG:OK K "list"
 YZ:OK K "min"
 Y2:OK K "max"
 zQ:OK K "enumerate"
 zS:OK K "reversed"
 Y1:OK K "zip"
 YQ:NK K "DEAD" 0
 YR:NK K "END" 1
 YX:NK K "WORDS" 4294967296
 Y6:NK K "BOUND_PASSED" (-1)
 Y7:NK K "NOT_FITTING" (-2)
 Y4:NK K "NO_KIND" (-3)
 Y8:NK K "TOO_MANY_ROWS" (-4)
 Y9:NK K "NO_SUCH_ROW" (-5)
 Y5:NK K "TOO_FEW_WORDS" (-6)
 Y3:NK K "NO_ROW_OF_THE_KIND" (-9)
 YI:NK K "MOST_ROWS_AT_ONCE" 20
 YS:NK K "FAIR_LIMIT" 4611686018427387904
 YA:NK K "LAST_KIND" 5
 Yy:NK K "LARGEST_SIZE" 3
 Ym:NK K "LONGEST_TOGETHER" 20
 YC:NK K "ROWS_LIMIT" 4611686018427387904
 Yt:TK K "reach" C1
 Yq:TK K "merge" uO
 zJ:TK K "count_ways" DD
 Ys:TK K "build" Ee
 z8:TK K "always" C4
 Yg:TK K "unused" DA
 za:TK K "allowed_partners" A2
 zx:TK K "involutions" sj
 zO:TK K "matchings" uZ
 zp:TK K "fit_letters" Mf
 z1:TK K "follow" tY
 z4:TK K "row_at" DW
 zM:TK K "beginning" rY
 Yn:TK K "fault" DG
 zA:TK K "fair_number" Ki
 Ye:TK K "as_one" A4
 Ya:TK K "living" vw
 zT:TK K "is_alive" Bc
 zm:TK K "answer_about" tR
 zE:TK K "answer_row" yy
 zj:TK K "answer_number" rS
 zd:TK K "answer_beginning" yu
 zC:TK K "answer_rows" vD
 zv:TK K "answer_draw" v7
 zr:TK K "answer_fair" vW
 zw:TK K "first_apart" D8
 zf:TK K "first_way_apart" Qq
 zg:TK K "one_of_fifteen" tp
 zF:TK K "one_of_two" Ot
 zL:TK K "read_call" J6
 zZ:TK K "answers" Av
 Yp:TT K "words" rQ
 z0:TT K "choices" mQ
 YT:TT K "bags" vq
 Yd:TT K "orders" oO
 zo:TT K "derangements" gX
 zX:TT K "zigzags" mY
 Yw:TT K "parts" mh
 Yb:TT K "shares" jV
 z6:TT K "groups" jY
 Yo:TT K "paths" mj
 zK:TT K "automaton" gf
 zH:TT K "extensions" jk
 Yz:TT K "walks" mo
 zV:TT K "pairings" lr
 Yc:TT K "begins" oP
 YO:TT K "then" vA
 zk:TT K "side_by_side" vo
 YL:TT K "both" vE
 Yh:TT K "either" oS
 YP:TT K "less" pW
 YW:GK K "Kind"
 YE:oQ K `ek'
 YD:IK K `ek' "Kind.__init__" Ju
 YK:GK K "Room"
 YU:Gn K `dP'
 YN:IK K `dP' "Room.__init__" tZ
 YV:GK K "Call"
 YM:N8 K `me'
 YJ:IK K `me' "Call.__init__" qS
 YF:MK K `dP' "keep" "Room.keep" Ag
 YH:MK K `dP' "make" "Room.make" Kf
 zl:MK K `dP' "put_together" "Room.put_together" SE
 Yl:MK K `dP' "begin" "Room.begin" Dp
 zW:MK K `dP' "compare" "Room.compare" vI
 z2:MK K `dP' "answer" "Room.answer" yo
 Yx:GK K "FORMS"
 of:OF K (gA K "FORMS")
 nd:decide ((uq K).map (·.1)).Nodup=true
structure LX (K:ai) (mg:Str->Option aA):Prop extends V4 K where
 x:∃h:cZ,K.In h/\h.Ns mainGlobals mg
section
variable {x q:Str} {st:du} {ps:List Str} {C:ak}
def LX.gl (L:LX K mg) {v:aA} (e:nsIn K mainGlobals x=some `eG'):mg x=some v:=let⟨_,X,N⟩:=L.x;mg_of X N e
def LX.no (L:LX K mg) (e:OK K x):mg x=none:=let⟨_,X,N⟩:=L.x;PySem.W.mg_none_of X N e
def LX.txt (L:LX K mg):Txt5 K mg where
 nSum:=L.no L.YY
 nTuple:=L.no L.Yu
 nLen:=L.no L.Y0
 nRange:=L.no L.Yv
 nList:=L.no L.YG
 nMin:=L.no L.YZ
 nMax:=L.no L.Y2
 nEnum:=L.no L.zQ
 nRev:=L.no L.zS
 nZip:=L.no L.Y1
 blt:=let⟨_,X,N⟩:=L.x;L.bk.blt X N
 dead:=#[_,L.gl L.YQ]
 endd:=#[_,L.gl L.YR]
 wrd:=#[_,L.gl L.YX]
 c1:=#[_,L.gl L.Y6]
 c2:=#[_,L.gl L.Y7]
 c3:=#[_,L.gl L.Y4]
 c4:=#[_,L.gl L.Y8]
 c5:=#[_,L.gl L.Y9]
 c6:=#[_,L.gl L.Y5]
 c9:=#[_,L.gl L.Y3]
 most:=#[_,L.gl L.YI]
 flim:=#[_,L.gl L.YS]
 lastk:=#[_,L.gl L.YA]
 lsize:=#[_,L.gl L.Yy]
 llong:=#[_,L.gl L.Ym]
 rlim:=#[_,L.gl L.YC]
abbrev BdP (x q:Str) (st:du) (ps:List Str):Prop:=∀(kV doc pm:aA) (an:Option ak) (cdv ct:aA) (us:List aA),us.length=ps.length->bindArgs (PySem.W.fnOf x q (ue st) (oZ st) `l3' .none kV doc pm an cdv ct) `hZ'=pure `fc'
def LX.gq (L:LX K mg) (t:TK K x st) (b:BdP x x st ps):ub K mg x st `hw' (fC x x st (gD K `hw') (gD K `hw').code) ps:=#[L.gl t.g,t.f.k,t.f.fn.binds b,t.f.fn]
def MK.r (t:MK K C x q st) (b:BdP x q st ps):∃f fd,QR K C x q st f fd ps:=#[_,_,t.m,t.f.fn.binds b,t.f.fn]
def LX.mm (L:LX K mg) (t:TT K x st) (b:BdP x x st ps) {C:ak} {TB:qI} {kof:List V->Hp->aT->Prop} (ok:∀base,bT P w K mg base dj 7 `hw' `dY' ps (sY C TB kof)):∃f fd,GH P w K mg C TB x ps kof f fd:=`jX'
def LX.jj (L:LX K mg) (t:TT K x st) (b:BdP x x st ps) {sp:Sp} (ok:∀base,bT P w K mg base dj 7 `hw' `dY' ps sp):∃f fd,WG P w K mg x ps sp f fd:=`jX'
def LX.Yk (L:LX K mg):=L.gq L.Yt (ps:=`c8') `ab'
def LX.Yj (L:LX K mg):=L.gq L.Yq (ps:=`a1') `ab'
def LX.zD (L:LX K mg):=L.gq L.zJ (ps:=`fJ') `Fr
def LX.Yr (L:LX K mg):=L.gq L.Ys (ps:=`aW') (fun _ _ _ _ _ _ us hl=>match us,hl with| [_,_,_,_,_,_],_=>rfl)
def LX.z7 (L:LX K mg):=L.gq L.z8 (ps:=`bM') `D'
def LX.Yf (L:LX K mg):=L.gq L.Yg (ps:=`kx') `Fr
def LX.zb (L:LX K mg):=L.gq L.za (ps:=`gk') `Fr
def LX.zq (L:LX K mg):=L.gq L.zx (ps:=["n"]) `D'
def LX.zN (L:LX K mg):=L.gq L.zO (ps:=`gC') `D'
def LX.zz (L:LX K mg):=L.gq L.zp (ps:=`eA') `Fr
def LX.z9 (L:LX K mg):=L.gq L.z1 (ps:=`lV') `ab'
def LX.z5 (L:LX K mg):=L.gq L.z4 (ps:=`cF') `Fr
def LX.zR (L:LX K mg):=L.gq L.zM (ps:=`be') `Fr
def LX.YB (L:LX K mg):=L.gq L.Yn (ps:=`be') `Fr
def LX.zs (L:LX K mg):=L.gq L.zA (ps:=`fd') `Fr
def LX.Yi (L:LX K mg):=L.gq L.Ye (ps:=["drawn"]) `D'
def LX.z3 (L:LX K mg):=L.gq L.Ya (ps:=`kw') `D'
def LX.zU (L:LX K mg):=L.gq L.zT (ps:=`jq') `D'
def LX.zn (L:LX K mg):=L.gq L.zm (ps:=`lo') `ab'
def LX.zI (L:LX K mg):=L.gq L.zE (ps:=`cF') `Fr
def LX.zi (L:LX K mg):=L.gq L.zj (ps:=`be') `Fr
def LX.zc (L:LX K mg):=L.gq L.zd (ps:=`be') `Fr
def LX.zB (L:LX K mg):=L.gq L.zC (ps:=`fI') `X'
def LX.zu (L:LX K mg):=L.gq L.zv (ps:=`jp') `Fr
def LX.zt (L:LX K mg):=L.gq L.zr (ps:=`fd') `Fr
def LX.zy (L:LX K mg):=L.gq L.zw (ps:=`cg') `Fr
def LX.ze (L:LX K mg):=L.gq L.zf (ps:=`dL') `X'
def LX.zh (L:LX K mg):=L.gq L.zg (ps:=`nQ') `X'
def LX.zG (L:LX K mg):=L.gq L.zF (ps:=["number","a","b"]) `X'
def LX.zP (L:LX K mg):=L.gq L.zL (ps:=`ln') `Fr
def LX.zY (L:LX K mg):=L.gq L.zZ (ps:=`mX') `D'
def NR:(tA K "words",t0)∈uq K:=aQ (i:=0) rfl
def Ij:(tA K "choices",ph)∈uq K:=aQ (i:=1) rfl
def Rw:(tA K "bags",xj)∈uq K:=aQ (i:=2) rfl
def LA:(tA K "orders",rp)∈uq K:=aQ (i:=3) rfl
def xY:(tA K "derangements",jO)∈uq K:=aQ (i:=4) rfl
def HS:(tA K "zigzags",pd)∈uq K:=aQ (i:=5) rfl
def O0:(tA K "parts",rV)∈uq K:=aQ (i:=6) rfl
def Ll:(tA K "shares",pX)∈uq K:=aQ (i:=7) rfl
def LJ:(tA K "groups",pK)∈uq K:=aQ (i:=8) rfl
def Qu:(tA K "paths",rP)∈uq K:=aQ (i:=9) rfl
def Dk:(tA K "automaton",kS)∈uq K:=aQ (i:=10) rfl
def BC:(tA K "extensions",lq)∈uq K:=aQ (i:=11) rfl
def O4:(tA K "walks",rG)∈uq K:=aQ (i:=12) rfl
def xw:(tA K "pairings",iS)∈uq K:=aQ (i:=13) rfl
def Lf:(tA K "begins",qV)∈uq K:=aQ (i:=14) rfl
def SQ:(tA K "then",wO)∈uq K:=aQ (i:=15) rfl
def ot:(tA K "side_by_side",oz)∈uq K:=aQ (i:=16) rfl
def RG:(tA K "both",xm)∈uq K:=aQ (i:=17) rfl
def Mv:(tA K "either",qT)∈uq K:=aQ (i:=18) rfl
def RW:(tA K "less",uJ)∈uq K:=aQ (i:=19) rfl
def LX.ndT (L:LX K mg):((uq K).map (·.1)).Nodup:=af L.nd
def LX.bld (L:LX K mg):∃fdB fdA,B5 (eO `ek') P w K mg (gA K "build") (gA K "always") fdB fdA:=
 let b:=L.Yr
 let a:=L.z7
 let r:=L.Yk
 let m:=L.Yj
 let c:=L.zD
 have S:=#[r.g,r.k,r.b,r.fn,m.g,m.k,m.b,m.fn,c.g,c.k,c.b,c.fn,L.gl L.YW.g,L.YD.m,L.YD.f.fn.binds (fun _ _ _ _ _ _ us hl=>match us,hl with| [_,_,_,_,_,_,_],_=>rfl),L.YD.f.fn,L.YE]
 #[_,_,b.g,b.k,b.b,fun _ _=>Gx b.fn S L.txt.toTxt4,fun _ _=>Gx b.fn S L.txt.toTxt4,a.g,a.k,a.b,fun _=>Ly a.fn]
def LX.uns (L:LX K mg):∃f fd,Uns P w K mg f fd:=let u:=L.Yf;#[_,_,u.g,u.k,u.b,fun _=>L3 u.fn L.txt.toTxt3]
def LX.als (L:LX K mg):∃f fd,Als P w K mg f fd:=let u:=L.zb;#[_,_,u.g,u.k,u.b,fun _=>Ii u.fn L.txt.toTxt3]
def LX.prs (L:LX K mg):∃f fd,Prs (eO `ek') P w K mg f fd (tA K "pairings"):=let⟨_,_,B⟩:=L.bld;#[_,_,L.gl L.zV.g,L.zV.f.k,L.zV.fn.binds `Fr,fun _=>FJ L.zV.fn B L.txt.toTxt3]
def LX.mks (L:LX K mg):Mks P w K mg `ek' (uq K):=
 let⟨_,_,B⟩:=L.bld
 let T:=L.txt.toTxt3
 let⟨_,_,U⟩:=L.uns
 let⟨_,_,R⟩:=L.prs
 let⟨_,_,A⟩:=L.als
 let i:=L.zq
 let m:=L.zN
 ⟨L.mm L.Yp `Fr fun _=>Qv (c:=0) L.ndT NR (O3 L.Yp.fn B T),
  L.mm L.z0 `Fr fun _=>IZ (c:=0) L.ndT Ij (HM L.z0.fn B T),
  L.mm L.YT `Fr fun _=>RQ (c:=0) L.ndT Rw (RB L.YT.fn B T),
  L.mm L.Yd `D' fun _=>LF L.ndT LA (LQ L.Yd.fn B T),
  L.mm L.zo `D' fun _=>xV L.ndT xY (xU L.zo.fn B U T),
  #[_,_,i.g,i.k,i.b,fun _=>AF L.ndT xw (yT i.fn R T)],
  L.mm L.zX `D' fun _=>G3 L.ndT HS (G7 L.zX.fn B U T),
  L.mm L.Yw `X' fun _=>NO L.ndT O0 (Ph L.Yw.fn B T),
  L.mm L.Yb `ab' fun _=>LY L.ndT Ll (L1 L.Yb.fn B T),
  L.mm L.z6 `Fr fun _=>L9 (c:=0) L.ndT LJ (LB L.z6.fn B T),
  L.mm L.Yo `X' fun _=>Qt L.ndT Qu (N5 L.Yo.fn B T),
  L.mm L.zK `a4' fun _=>DV L.ndT Dk (Db L.zK.fn B T),
  L.mm L.zH `D' fun _=>Bz L.ndT BC (Bx L.zH.fn B U T),
  L.mm L.Yz `ab' fun _=>PF L.ndT O4 (ON L.Yz.fn B T),
  #[_,_,m.g,m.k,m.b,fun _=>Eg L.ndT xw (DZ m.fn R A T)]⟩
def LX.sideK (L:LX K mg):∃f fd,JX `ek' (tA K "side_by_side") P w K mg f fd:=let⟨_,_,B⟩:=L.bld;#[_,_,L.gl L.zk.g,L.zk.f.k,L.zk.fn.binds `a4',fun _ _=>RV L.zk.fn L.YE B L.txt L.zz]
def HJ {K:ai} {i j:Nat} (nd:((uq K).map (·.1)).Nodup) {a b:ak} (ha:((uq K).map (·.1))[i]? =some a) (hb:((uq K).map (·.1))[j]? =some b) (h:i≠j):a≠b:=fun z=>h (ZJ nd ha `kV')
def LX.jns (L:LX K mg):Jns P w K mg `ek' (uq K):=
 let T:=L.txt
 let⟨_,_,B⟩:=L.bld
 let⟨_,_,S⟩:=L.sideK
 ⟨L.YE,L.jj L.YL `Fr fun _=>RO L.ndT RG ot (HJ (i:=16) (j:=17) L.ndT rfl rfl `KK) (SS L.YL.fn L.YE T S),
  L.jj L.Yh `Fr fun _=>LV L.ndT Mv ot (HJ (i:=16) (j:=18) L.ndT rfl rfl `KK) (LO L.Yh.fn L.YE T S),
  L.jj L.YP `Fr fun _=>RF L.ndT RW ot (HJ (i:=16) (j:=19) L.ndT rfl rfl `KK) (Sy L.YP.fn L.YE T S),
  L.jj L.YO `Fr fun _=>SV L.ndT SQ (Sg L.YO.fn L.YE B T L.z3 L.zU),
  L.jj L.Yc `Fr fun _=>Mi L.ndT Lf (Lk L.Yc.fn L.YE B T L.z3 L.zU)⟩
def LX.rms (L:LX K mg):Rms P w K mg `ek' `dP' `me' (uq K) where
 kc:=L.YE
 rc:=L.YU
 cc:=L.YM
 t:=L.txt
 mks:=L.mks
 jns:=L.jns
 keep:=L.YF.r `X'
 make:=L.YH.r `Fr
 put:=L.zl.r `a4'
 begin_:=L.Yl.r `ab'
 compare:=L.zW.r `X'
 fif:=#[_,_,L.zh]
 two:=#[_,_,L.zG]
 alk:=#[_,_,_,_,_,_,_,_,L.zy,L.zz,L.Yj,L.ze]
 qs:=#[_,_,_,_,_,_,_,_,_,_,_,_,L.YE,L.z5,L.zR,L.YB,L.zs,L.Yi,L.z9]
 qa:=#[_,_,_,_,_,_,_,_,_,_,L.zI,L.zB,L.zu,L.zc,L.zi]
 about:=#[_,_,L.zn]
 fair:=#[_,_,L.zt]
def LX.alls (L:LX K mg):Z0 P w K mg `ek' `dP' `me' (uq K) where
 r:=L.rms
 fo:=L.of.forms (L.gl L.Yx.g)
 gC:=L.gl L.YV.g
 ci:=#[_,_,L.YJ.m,L.YJ.f.fn.binds `a4',L.YJ.f.fn]
 gR:=L.gl L.YK.g
 ri:=#[_,_,L.YN.m,L.YN.f.fn.binds `D',L.YN.f.fn]
 rd:=#[_,_,L.zP]
 an:=L.z2.r `Fr
def LX.all (L:LX K mg) {fa:ak} (hf:mg "answers"=some (.ref fa)):∃fd:aH,(∀(s:aS) (us:List aA),us.length=(`mX':List Str).length->BindsTo s fd `hZ' ((`mX':List Str).zip us))/\∀base:cZ,Mod K mg base->bT P w K mg base dj 11 fa fd `mX' (xk K (uq K)):=by
 have g:=L.zY;obtain rfl:gA K "answers"=fa:=by
  have:=g.g;rw[hf] at this;injection this with this
  injection this with this
  exact this.symm
 exact#[_,fun s us hl=>match us,hl with| [_],_=>.of_eq rfl,fun _ _=>HU g.fn L.alls]
end
def R9 {K:ai} {H:Hp} (h:JN ((tbc K).map (·.2)) H):eQ (uq K) H:=fun p hp=>⟨#[],h.1 p.1 (by
 have e:(tbc K).map (·.2)=(uq K).map (·.1):=rfl;rw[e];exact aV.mpr #[p,hp,rfl]),trivial,fun q _ cv z=>by cases z⟩
end RP
open PySem PySem.W PyProof.Rows
theorem PySem.Challenge.cw_rankroom_s01_answers_holds : PySem.Challenge.rw_rankroom_s01_answers.Holds := by
 w_on;k_headS;(case hw=>exact⟨[.list [.int 21,.int 0]],by decide+kernel,by decide+kernel⟩)
 k_fillS
 refine L2.G5 (r:=PySem.Challenge.rw_rankroom_s01_answers) (k:=11) (CX:=L2.dj) (ps:=["calls"]) (tabs:=RP.tbc) (sp:=fun K=>RP.xk K (RP.uq K)) (by decide+kernel) rfl ⟨rfl,by decide,by decide⟩ (bm:=4) (fun w h Y=>PySem.W.kIn_of Y) (fun p=>by kernel_rfl) ?T (fun p sl=>by kernel_rfl) ?F ?S (fun _ _ _ _ z=>z)
 case T=>
  intro w mg mb s0 h sl G KX;exact RP.R0 G.T KX (by kernel_rfl)
 case F=>
  intro w mg fa h sl KX G Xx;refine RP.LX.all ⟨?_,h,KX,G⟩ Xx
  repeat' (first|kernel_rfl|constructor| (show _=_;kernel_rfl))
 case S=>
  intro K H xs a hO hwi xR hx;cases hx with
  |cons h1 h2=>
   cases h2;cases h1 with
   |lst hs ha=>
    have e:=L2.JP a.1 _ ha;subst e;have q:((Codec.inLen 0 16000 a.1&&a.1.all (Codec.inInt 0 9223372036854775807))&&true)=true:=hwi;rw[aX,aX] at q;exact⟨_,a.1,rfl,hs,fun z hz=>(Codec.inInt_iff.mp (eY.mp q.1.2 z hz)).1,(Codec.inNat_iff.mp q.1.1).2,xR,RP.R9 hO,fun H' r hr=>.lst (L2.SqL.of hr) (L2.Ke _)⟩
